"""Lashing: stacks of boxes on deck, and the rods that hold them."""

from quaybest.errors import QuayError

MOST_BOXES = 9
GREATEST_WEIGHT = 400
GREATEST_ACCELERATION = 1000
# The least and the greatest number of each attribute of gear, in the order in which they are looked at.
LIMITS = (("joint", 0, 1000000), ("rod", 1, 1000000), ("reach", 0, 9), ("rods", 0, 4), ("weight", 0, 3600),
          ("post", 0, 3600))


class BadGear(QuayError):
    """A number of gear is out of range."""

    def __init__(self, name):
        self.name = name


class BadStack(QuayError):
    """A stack is not as it should be."""

    def __init__(self, number):
        self.number = number


class BadRods(QuayError):
    """The rods of a stack are not as they should be."""

    def __init__(self, number):
        self.number = number


class Gear:
    """What joints and rods hold, and what stacks may weigh."""

    def __init__(self, *, joint, rod, reach, rods, weight, post):
        values = (joint, rod, reach, rods, weight, post)
        for (name, least, greatest), value in zip(LIMITS, values):
            if value < least or value > greatest:
                raise BadGear(name)
        self.joint = joint
        self.rod = rod
        self.reach = reach
        self.rods = rods
        self.weight = weight
        self.post = post


def check_stack(stack):
    """Raise BadStack with the first wrong tier, or with None for too many boxes."""
    if len(stack) > MOST_BOXES:
        raise BadStack(None)
    for tier, weight in enumerate(stack):
        if weight < 1 or weight > GREATEST_WEIGHT:
            raise BadStack(tier)


def most_rods(gear, tier):
    """How many rods can be attached at a tier."""
    return gear.rods if tier < gear.reach else 0


def check_rods(stack, gear, rods):
    """Raise BadRods with the first wrong tier, or with None for another number of tiers than the stack has."""
    if len(rods) != len(stack):
        raise BadRods(None)
    for tier, count in enumerate(rods):
        if count < 0 or count > most_rods(gear, tier):
            raise BadRods(tier)


def forces_of(stack, acceleration):
    """The forces at the joints, from the bottom."""
    return tuple([acceleration * sum(stack[tier:]) for tier in range(len(stack))])


def violations_of(stack, gear, rods, acceleration):
    """What does not hold, of a stack and rods that are not looked at."""
    pressed = [tier for tier in range(len(stack)) if sum(stack[tier + 1:]) > gear.post]
    broken = [tier for tier, force in enumerate(forces_of(stack, acceleration))
              if force > gear.joint + gear.rod * sum(rods[tier:])]
    return sum(stack) > gear.weight, tuple(pressed), tuple(broken)


def holds(stack, gear, rods, acceleration):
    """True if a stack holds with its rods."""
    return violations_of(stack, gear, rods, acceleration) == (False, (), ())


def least_rods(stack, gear, acceleration):
    """The fewest rods with which a stack holds, the first of several; or None."""
    force = acceleration * sum(stack)
    left = max(0, -((gear.joint - force) // gear.rod))
    # No joint needs more rods than joint 0, and a rod supports all joints below: those that are attached
    # highest serve the most joints, and leave the least numbers at the first tiers.
    rods = [0] * len(stack)
    for tier in range(len(stack) - 1, -1, -1):
        rods[tier] = min(left, most_rods(gear, tier))
        left -= rods[tier]
    if not holds(stack, gear, rods, acceleration):
        return None
    return tuple(rods)


def greatest_acceleration(stack, gear, rods):
    """The greatest acceleration under which a stack holds, or None."""
    if not holds(stack, gear, rods, 0):
        return None
    low = 0
    high = GREATEST_ACCELERATION
    while low < high:
        middle = (low + high + 1) // 2
        if holds(stack, gear, rods, middle):
            low = middle
        else:
            high = middle - 1
    return low


def forces(stack, acceleration):
    """The forces at the joints, from the bottom."""
    check_stack(stack)
    return forces_of(stack, acceleration)


def violations(stack, gear, rods, acceleration):
    """Whether the stack is too heavy, the tiers with too much above them, and the joints that do not hold."""
    check_stack(stack)
    check_rods(stack, gear, rods)
    return violations_of(stack, gear, rods, acceleration)


def min_rods(stack, gear, acceleration):
    """The fewest rods with which the stack holds, the first of several; or None."""
    check_stack(stack)
    return least_rods(stack, gear, acceleration)


def max_acceleration(stack, gear, rods):
    """The greatest acceleration under which the stack holds, or None."""
    check_stack(stack)
    check_rods(stack, gear, rods)
    return greatest_acceleration(stack, gear, rods)


def max_top_weight(stack, gear, rods, acceleration):
    """The greatest weight of one more box on top, without rods, with which the stack holds; or None."""
    check_stack(stack)
    check_rods(stack, gear, rods)
    if len(stack) == MOST_BOXES:
        return None
    for weight in range(GREATEST_WEIGHT, 0, -1):
        if holds([*stack, weight], gear, [*rods, 0], acceleration):
            return weight
    return None
