"""Vessels: ships that are loaded, unloaded and ballasted, and are stable at all times."""

from quaybest.errors import QuayError
from quaybest.stability import draught_at, loaded_totals, violations


class NotStable(QuayError):
    """The ship would not be stable."""

    def __init__(self, words):
        self.words = words


class NoLoad(QuayError):
    """No load has this number."""


class NoTank(QuayError):
    """No tank has this number."""


class BadFill(QuayError):
    """A tank cannot hold this amount."""


class TooManyLoads(QuayError):
    """There are as many loads as there may be."""


class NoChange(QuayError):
    """There is no change left that could be taken back."""


def least_draught(curve, weight):
    """The least whole draught, from that of the first row on, at which the displacement is at least a weight."""
    exact = draught_at(curve, weight)
    return -(-exact[0] // exact[1])


class Vessel:
    """Keeps the loads and the water of a ship."""

    def __init__(self, hull):
        fills = (0,) * len(hull.tanks)
        words = violations(hull, (), fills)
        if words:
            raise NotStable(words)
        self._hull = hull
        self._loads = ()
        self._fills = fills
        # Loads and fills ahead of each change that was not taken back.
        self._earlier = []

    def load(self, load):
        """Put a load behind the others; return its number."""
        if len(self._loads) == 60:
            raise TooManyLoads("there are 60 loads")
        self._change((*self._loads, tuple(load)), self._fills)
        return len(self._loads) - 1

    def unload(self, number):
        """Take a load off board; return it."""
        self._check_load(number)
        load = self._loads[number]
        self._change((*self._loads[:number], *self._loads[number + 1:]), self._fills)
        return load

    def shift(self, number, place):
        """Put a load in another place; return the place that it had."""
        self._check_load(number)
        load = self._loads[number]
        loads = list(self._loads)
        loads[number] = (load[0], *place)
        self._change(tuple(loads), self._fills)
        return load[1:]

    def fill(self, tank, amount):
        """Let a tank hold an amount; return what it held."""
        if tank < 0 or tank >= len(self._fills):
            raise NoTank("no tank has this number")
        if amount < 0 or amount > self._hull.tanks[tank][0]:
            raise BadFill("the tank cannot hold this amount")
        held = self._fills[tank]
        fills = list(self._fills)
        fills[tank] = amount
        self._change(self._loads, tuple(fills))
        return held

    def undo(self):
        """Take back the last change; return how many can still be taken back."""
        if not self._earlier:
            raise NoChange("no change is left")
        self._loads, self._fills = self._earlier.pop()
        return len(self._earlier)

    def loads(self):
        """The loads."""
        return self._loads

    def fills(self):
        """The weight of the water in each tank."""
        return self._fills

    def weight(self):
        """The weight of the lightship, the loads and the water."""
        return loaded_totals(self._hull, self._loads, self._fills)[0]

    def draught(self):
        """The least whole draught at which the displacement is at least the weight."""
        return least_draught(self._hull.curve, self.weight())

    def _check_load(self, number):
        if number < 0 or number >= len(self._loads):
            raise NoLoad("no load has this number")

    def _change(self, loads, fills):
        words = violations(self._hull, loads, fills)
        if words:
            raise NotStable(words)
        self._earlier.append((self._loads, self._fills))
        self._loads = loads
        self._fills = fills
