"""A deck: stacks with their rods, all of which hold at all times."""

from quaybest.errors import QuayError
from quaybest.lashing import GREATEST_ACCELERATION, MOST_BOXES, greatest_acceleration, holds, least_rods


class NoStack(QuayError):
    """No stack has this number."""


class NoBox(QuayError):
    """There is no box at this tier."""


class StackFull(QuayError):
    """A stack has as many boxes as it may have."""


class StackEmpty(QuayError):
    """A stack has no box."""


class NoReach(QuayError):
    """Rods cannot be attached at this tier."""


class TooManyRods(QuayError):
    """There would be too many rods at a tier."""


class TooFewRods(QuayError):
    """There are fewer rods than are needed."""


class WouldNotHold(QuayError):
    """A stack would not hold."""

    def __init__(self, stack):
        self.stack = stack


def with_more(rods, tier, count):
    """Rods, with so many more at a tier."""
    found = list(rods)
    found[tier] += count
    return tuple(found)


class Deck:
    """Keeps the stacks of a deck, their rods and the spare ones."""

    def __init__(self, gear, acceleration, stacks, rods):
        self.gear = gear
        self.acceleration = acceleration
        self.spare = rods
        # For each stack the pair of its weights and its rods.
        self._stacks = [((), ())] * stacks

    def add(self, stack, weight):
        """Put a box on top; return its tier."""
        weights, rods = self._at(stack)
        if len(weights) == MOST_BOXES:
            raise StackFull("the stack has 9 boxes")
        self._put(stack, (*weights, weight), (*rods, 0))
        return len(weights)

    def drop(self, stack):
        """Take the top box off; return its weight."""
        weights, rods = self._at(stack)
        if not weights:
            raise StackEmpty("the stack has no box")
        self._put(stack, weights[:-1], rods[:-1])
        return weights[-1]

    def lash(self, stack, tier, count):
        """Attach more rods at a tier; return how many are spare."""
        weights, rods = self._at_tier(stack, tier)
        if tier >= self.gear.reach:
            raise NoReach("rods cannot be attached at this tier")
        if rods[tier] + count > self.gear.rods:
            raise TooManyRods("there would be too many rods at the tier")
        if self.spare < count:
            raise TooFewRods("fewer rods are spare")
        self._put(stack, weights, with_more(rods, tier, count))
        return self.spare

    def unlash(self, stack, tier, count):
        """Take rods off at a tier; return how many are spare."""
        weights, rods = self._at_tier(stack, tier)
        if rods[tier] < count:
            raise TooFewRods("fewer rods are attached")
        self._put(stack, weights, with_more(rods, tier, -count))
        return self.spare

    def relash(self, stack):
        """Give a stack the fewest rods with which it holds; return how many were saved."""
        weights, rods = self._at(stack)
        fewest = least_rods(weights, self.gear, self.acceleration)
        self._put(stack, weights, fewest)
        return sum(rods) - sum(fewest)

    def set_acceleration(self, acceleration):
        """Let there be another acceleration; return the one before."""
        for number, (weights, rods) in enumerate(self._stacks):
            if not holds(weights, self.gear, rods, acceleration):
                raise WouldNotHold(number)
        before = self.acceleration
        self.acceleration = acceleration
        return before

    def max_acceleration(self):
        """The greatest acceleration under which all stacks hold."""
        found = [greatest_acceleration(weights, self.gear, rods) for weights, rods in self._stacks]
        return min([GREATEST_ACCELERATION, *found])

    def stacks(self):
        """Pairs of the weights and the rods of the stacks, from the bottom."""
        return tuple(self._stacks)

    def _at(self, stack):
        if stack < 0 or stack >= len(self._stacks):
            raise NoStack("no stack has this number")
        return self._stacks[stack]

    def _at_tier(self, stack, tier):
        weights, rods = self._at(stack)
        if tier < 0 or tier >= len(weights):
            raise NoBox("there is no box at this tier")
        return weights, rods

    def _put(self, stack, weights, rods):
        """Let a stack have these weights and rods; what it had more of rods is spare then, and the other way about."""
        if not holds(weights, self.gear, rods, self.acceleration):
            raise WouldNotHold(stack)
        self.spare += sum(self._stacks[stack][1]) - sum(rods)
        self._stacks[stack] = (weights, rods)
