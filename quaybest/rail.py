"""A rail: cranes that are sent along it, and keep their gap."""

from quaybest.cranes import LAST_POSITION, MOST_ROWS, TooClose, check_rows, keeps_gap
from quaybest.errors import QuayError


class NoCrane(QuayError):
    """No crane has this number."""


class NoPosition(QuayError):
    """The rail has no such position."""


class HistoryFull(QuayError):
    """There are as many rows as there may be."""


class CraneRail:
    """Keeps the cranes of a rail, and the rows of all minutes."""

    def __init__(self, gap, positions):
        check_rows((positions,), 1)
        if not keeps_gap(positions, gap):
            raise TooClose(0)
        self._gap = gap
        self._row = list(positions)
        # The position to which each crane is sent.
        self._goals = list(positions)
        self._history = [tuple(positions)]

    def send(self, crane, position):
        """Send a crane to a position; return how far it is from there."""
        if crane < 0 or crane >= len(self._row):
            raise NoCrane("no crane has this number")
        if position < 0 or position > LAST_POSITION:
            raise NoPosition("the rail has no such position")
        self._goals[crane] = position
        return abs(position - self._row[crane])

    def step(self):
        """Let a minute pass; return the cranes that moved, ascending."""
        if len(self._history) == MOST_ROWS:
            raise HistoryFull("there are 2500 rows")
        # Each crane sees where the one towards which it goes stands by then.
        for crane in range(len(self._row)):
            if self._goals[crane] < self._row[crane] and self._has_room(crane - 1):
                self._row[crane] -= 1
        for crane in range(len(self._row) - 1, -1, -1):
            if self._goals[crane] > self._row[crane] and self._has_room(crane):
                self._row[crane] += 1
        before = self._history[-1]
        self._history.append(tuple(self._row))
        return tuple([crane for crane, position in enumerate(self._row) if position != before[crane]])

    def positions(self):
        """The present positions."""
        return tuple(self._row)

    def waiting(self):
        """The cranes that are not where they were sent, ascending."""
        return tuple([crane for crane, goal in enumerate(self._goals) if goal != self._row[crane]])

    def history(self):
        """The rows of all minutes."""
        return tuple(self._history)

    def _has_room(self, crane):
        """True if there is more than the gap between this crane and the next one, or not both are there."""
        if crane < 0 or crane + 1 == len(self._row):
            return True
        return self._row[crane + 1] - self._row[crane] > self._gap
