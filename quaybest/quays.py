"""A quay at which ships arrive, are delayed and stay longer."""

from quaybest.berths import changed, critical_chain, delay_effect, free_bollards, starts, stay_effect
from quaybest.errors import QuayError


class BadShip(QuayError):
    """A ship, or a change of one, is not as it should be."""

    def __init__(self, reason):
        self.reason = reason


class NoShip(QuayError):
    """No ship has this number."""


class QuayFull(QuayError):
    """There are as many ships as there may be."""


class NothingToUndo(QuayError):
    """There is nothing left that could be taken back."""


class Quay:
    """Keeps the ships that have arrived at a quay."""

    def __init__(self, bollards):
        self._bollards = bollards
        self._ships = ()
        # The ships ahead of each change that was not taken back.
        self._earlier = []

    def arrive(self, ship):
        """Let a ship arrive; return its earliest start."""
        position, length, ready, stay = ship
        if position < 0 or length < 1 or position + length > self._bollards:
            raise BadShip("place")
        if ready < 0 or stay < 1:
            raise BadShip("minutes")
        if len(self._ships) == 24:
            raise QuayFull("there are 24 ships")
        self._change((*self._ships, (position, length, ready, stay)))
        return starts(self._ships)[-1]

    def delay(self, number, by):
        """Let a ship be ready later; return which ships start later, and by how much."""
        self._check_change(number, by)
        effect = delay_effect(self._ships, number, by)
        self._change(changed(self._ships, number, by, 0))
        return effect

    def prolong(self, number, by):
        """Let a ship stay longer; return which ships start later, and by how much."""
        self._check_change(number, by)
        effect = stay_effect(self._ships, number, by)
        self._change(changed(self._ships, number, 0, by))
        return effect

    def ships(self):
        """The ships as they are now."""
        return self._ships

    def starts(self):
        """The earliest starts."""
        return starts(self._ships)

    def critical_chain(self, number):
        """The critical chain of a ship."""
        self._check_number(number)
        return critical_chain(self._ships, number)

    def free_bollards(self, minute):
        """The stretches of bollards at which no ship lies in a minute."""
        return free_bollards(self._bollards, self._ships, minute)

    def undo(self):
        """Take back the last change; return how many ships there are then."""
        if not self._earlier:
            raise NothingToUndo("no change is left")
        self._ships = self._earlier.pop()
        return len(self._ships)

    def _change(self, ships):
        self._earlier.append(self._ships)
        self._ships = ships

    def _check_number(self, number):
        if number < 0 or number >= len(self._ships):
            raise NoShip("no ship has this number")

    def _check_change(self, number, by):
        self._check_number(number)
        if by < 1:
            raise BadShip("minutes")
