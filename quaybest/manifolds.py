"""A pipe with tanks at its ends."""

from quaybest.errors import QuayError
from quaybest.pipeline import normalize, push_a, push_b


class BadTanks(QuayError):
    """A tank holds more than it can."""

    def __init__(self, tank):
        self.tank = tank


class NoTank(QuayError):
    """No tank has this number."""


class TooLittle(QuayError):
    """A tank has too few units."""


class NoneOpen(QuayError):
    """No tank is open where units come out."""


class TwoProducts(QuayError):
    """Two products would come together in a tank."""


class Overflow(QuayError):
    """A tank would have more than it can hold."""


class NothingToUndo(QuayError):
    """There is no call left that could be reverted."""


def filled(tank, amount):
    """A tank with another amount, without a product if that is 0."""
    product, _, capacity = tank
    if amount == 0:
        product = None
    return product, amount, capacity


def taken_in(tank, out):
    """A tank behind the taking in of what came out of a pipe."""
    held, amount, capacity = tank
    product, more = out[0]
    if len(out) > 1 or (held is not None and held != product):
        raise TwoProducts("two products would come together")
    if amount + more > capacity:
        raise Overflow("the tank would have more than its capacity")
    return product, amount + more, capacity


class Manifold:
    """Keeps a pipe, its tanks, and which of them are open."""

    def __init__(self, pipe, tanks):
        for number, (_, amount, capacity) in enumerate(tanks):
            if amount > capacity:
                raise BadTanks(number)
        self._pipe = normalize(pipe)
        self._tanks = tuple([filled(tank, tank[1]) for tank in tanks])
        self._opened = (None, None)
        # Pipe, tanks and open tanks ahead of each call that was not reverted.
        self._earlier = []

    def pipe(self):
        """The pipe."""
        return self._pipe

    def tanks(self):
        """The tanks, each (product, amount, capacity)."""
        return self._tanks

    def open_tanks(self):
        """The numbers of the tanks that are open at A and at B."""
        return self._opened

    def open_at(self, end, tank):
        """Open a tank at an end; return the number of the one that was open there."""
        self._check_tank(tank)
        at_a, at_b = self._opened
        self._keep()
        if end == "A":
            self._opened = (tank, at_b)
            return at_a
        self._opened = (at_a, tank)
        return at_b

    def pump(self, tank, end, amount):
        """Pump units of a tank in at an end; return the product that came out."""
        self._check_tank(tank)
        product, held, _ = self._tanks[tank]
        if held < amount:
            raise TooLittle("the tank has fewer units")
        at_a, at_b = self._opened
        goal = at_b if end == "A" else at_a
        if goal is None:
            raise NoneOpen("no tank is open at the other end")
        load = ((product, amount),)
        pipe, out = push_a(self._pipe, load) if end == "A" else push_b(self._pipe, load)
        # The units are taken out first: the tank that takes in may be the same one.
        tanks = list(self._tanks)
        tanks[tank] = filled(tanks[tank], held - amount)
        tanks[goal] = taken_in(tanks[goal], out)
        self._keep()
        self._pipe = pipe
        self._tanks = tuple(tanks)
        return tanks[goal][0]

    def drain(self, tank):
        """Empty a tank; return the amount that it had."""
        self._check_tank(tank)
        amount = self._tanks[tank][1]
        if amount == 0:
            raise TooLittle("the tank is empty")
        self._keep()
        tanks = list(self._tanks)
        tanks[tank] = filled(tanks[tank], 0)
        self._tanks = tuple(tanks)
        return amount

    def undo(self):
        """Revert the last call that changed something; return how many are left."""
        if not self._earlier:
            raise NothingToUndo("no call is left")
        self._pipe, self._tanks, self._opened = self._earlier.pop()
        return len(self._earlier)

    def _check_tank(self, tank):
        if tank < 0 or tank >= len(self._tanks):
            raise NoTank("no tank has this number")

    def _keep(self):
        self._earlier.append((self._pipe, self._tanks, self._opened))
