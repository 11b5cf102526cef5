"""A hold: boxes of dangerous goods along one row, no two too close."""

from quaybest.errors import QuayError
from quaybest.segregation import allowed_positions, pack, too_close


class HoldFull(QuayError):
    """There are as many boxes as there may be."""


class NoPosition(QuayError):
    """The hold has no such position, or none that is allowed."""


class NoBox(QuayError):
    """No box has this number."""


class TooClose(QuayError):
    """A box would be too close to another one."""

    def __init__(self, box):
        self.box = box


class Hold:
    """Keeps the boxes of a hold."""

    def __init__(self, table, length):
        degrees, distances = table
        self._table = (tuple([tuple(row) for row in degrees]), tuple(distances))
        self._length = length
        self._given = 0
        # The boxes as (number, class, position), by numbers.
        self._boxes = []

    def add(self, kind):
        """Add a box of a class at the least position that is allowed; return its number and its position."""
        if len(self._boxes) == 40:
            raise HoldFull("there are 40 boxes")
        rows = allowed_positions(self._table, self.row(), kind, self._length)
        if not rows:
            raise NoPosition("no position is allowed")
        self._given += 1
        self._boxes.append((self._given, kind, rows[0][0]))
        return self._given, rows[0][0]

    def remove(self, number):
        """Take a box out; return its class and its position."""
        _, kind, position = self._boxes.pop(self._place_of(number))
        return kind, position

    def move(self, number, position):
        """Move a box; return the position where it was."""
        place = self._place_of(number)
        if position < 0 or position >= self._length:
            raise NoPosition("the hold has no such position")
        _, kind, before = self._boxes[place]
        for other, other_kind, other_position in self._boxes:
            if other != number and too_close(self._table, (kind, position), (other_kind, other_position)):
                raise TooClose(other)
        self._boxes[place] = (number, kind, position)
        return before

    def compact(self):
        """Pack all boxes in the order in which they stand; return by how much the greatest position is less then."""
        ordered = self.boxes()
        if not ordered:
            return 0
        positions = pack(self._table, [row[1] for row in ordered])
        self._boxes = sorted([(number, kind, position) for (number, kind, _), position in zip(ordered, positions)])
        return ordered[-1][2] - positions[-1]

    def boxes(self):
        """The boxes as (number, class, position), by positions."""
        ordered = sorted([(position, number, kind) for number, kind, position in self._boxes])
        return tuple([(number, kind, position) for position, number, kind in ordered])

    def row(self):
        """The boxes as a list of (class, position), by numbers."""
        return [(kind, position) for _, kind, position in self._boxes]

    def _place_of(self, number):
        numbers = [row[0] for row in self._boxes]
        if number not in numbers:
            raise NoBox("no box has this number")
        return numbers.index(number)
