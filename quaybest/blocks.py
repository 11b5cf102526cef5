"""A block of the yard: boxes that are placed, lifted and dug out."""

from quaybest.errors import QuayError
from quaybest.yard import above, can_place, lifts_to_free, placed, slots_of


class BoxThere(QuayError):
    """A box with this number is there."""


class NoRoom(QuayError):
    """A box cannot be placed."""


class Covered(QuayError):
    """A box has another one above it."""


class NoChange(QuayError):
    """There is no change left that could be reverted."""


class YardBlock:
    """Keeps the boxes of a block."""

    def __init__(self, slots, height):
        self._height = height
        self._columns = ((),) * slots
        # The columns ahead of each change that was not reverted.
        self._earlier = []

    def place(self, box, feet, slot):
        """Place a box; return its tier."""
        if slots_of(self._columns, box):
            raise BoxThere("a box with this number is there")
        if not can_place(self._columns, self._height, feet, slot):
            raise NoRoom("the box cannot be placed")
        self._change(placed(self._columns, box, feet, slot))
        return len(self._columns[slot]) - 1

    def lift(self, box):
        """Lift a box; return its number, its feet and its slot."""
        if above(self._columns, box):
            raise Covered("a box is above it")
        slots = slots_of(self._columns, box)
        self._take((box,))
        return box, 20 * len(slots), slots[0]

    def dig(self, box):
        """Lift the boxes above a box, and then the box; return all of them in their order."""
        boxes = (*lifts_to_free(self._columns, box), box)
        self._take(boxes)
        return boxes

    def undo(self):
        """Revert the last change; return how many are left."""
        if not self._earlier:
            raise NoChange("no change is left")
        self._columns = self._earlier.pop()
        return len(self._earlier)

    def columns(self):
        """The columns, from the bottom."""
        return self._columns

    def _take(self, boxes):
        self._change(tuple([tuple([box for box in column if box not in boxes]) for column in self._columns]))

    def _change(self, columns):
        self._earlier.append(self._columns)
        self._columns = columns
