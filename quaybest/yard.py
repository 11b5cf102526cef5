"""A yard: boxes of 20 and of 40 feet that stand on one another on a row of slots."""

from quaybest.errors import QuayError


class NoSuchBox(QuayError):
    """No box has this number."""


def feet_at_top(columns, slot):
    """The feet of the top box of a slot, 0 without one."""
    column = columns[slot]
    if not column:
        return 0
    beside = [columns[other] for other in (slot - 1, slot + 1) if 0 <= other < len(columns)]
    return 40 if any([column[-1] in other for other in beside]) else 20


def can_place(columns, height, feet, slot):
    """True if a box of so many feet can be placed on a slot that there may be."""
    if slot < 0 or slot + feet // 20 > len(columns) or len(columns[slot]) >= height:
        return False
    if feet == 20:
        return feet_at_top(columns, slot) != 40
    return len(columns[slot]) == len(columns[slot + 1])


def placed(columns, box, feet, slot):
    """The columns with one more box, which can be placed."""
    covered = range(slot, slot + feet // 20)
    return tuple([(*column, box) if other in covered else tuple(column) for other, column in enumerate(columns)])


def build(slots, height, placements):
    """The columns that placements build on empty ones, or the index of the first one that cannot be placed."""
    columns = ((),) * slots
    for number, (box, feet, slot) in enumerate(placements):
        if not can_place(columns, height, feet, slot):
            return number
        columns = placed(columns, box, feet, slot)
    return columns


def allowed_slots(columns, height, feet):
    """The slots on which a box of so many feet can be placed, ascending."""
    return tuple([slot for slot in range(len(columns)) if can_place(columns, height, feet, slot)])


def slots_of(columns, box):
    """The slots that a box covers, ascending; none if it is not there."""
    return [slot for slot, column in enumerate(columns) if box in column]


def check_there(columns, box):
    """Raise NoSuchBox unless a box is there."""
    if not slots_of(columns, box):
        raise NoSuchBox("no box has this number")


def beside_upwards(columns, step):
    """For each box the boxes directly above it (step 1) or below it (step -1) in its columns."""
    found = {}
    for column in columns:
        for tier, box in enumerate(column):
            if 0 <= tier + step < len(column):
                found[box] = [*found.get(box, []), column[tier + step]]
    return found


def reached(columns, box, step):
    """The boxes above (step 1) or below (step -1) a box that is there, ascending."""
    following = beside_upwards(columns, step)
    found = list(following.get(box, []))
    # The list grows while it is gone through by places.
    place = 0
    while place < len(found):
        found.extend([other for other in following.get(found[place], []) if other not in found])
        place += 1
    return tuple(sorted(set(found)))


def below(columns, box):
    """The boxes below a box, ascending."""
    check_there(columns, box)
    return reached(columns, box, -1)


def above(columns, box):
    """The boxes above a box, ascending."""
    check_there(columns, box)
    return reached(columns, box, 1)


def lifts_to_free(columns, box):
    """The fewest lifts behind which a box can be lifted, in their order; the first of several."""
    # All boxes above have to be lifted, and no other one: the first order takes the smallest that can be.
    left = list(above(columns, box))
    following = beside_upwards(columns, 1)
    lifts = []
    while left:
        place = 0
        while any([other in left for other in following.get(left[place], [])]):
            place += 1
        lifts.append(left.pop(place))
    return tuple(lifts)


def twenties_to_level(columns, height, slot):
    """The fewest boxes of 20 feet behind which one of 40 feet can be placed on a slot and the next one, or None."""
    low, high = sorted([(len(columns[other]), other) for other in (slot, slot + 1)])
    if high[0] >= height:
        return None
    if low[0] < high[0] and feet_at_top(columns, low[1]) == 40:
        return None
    return high[0] - low[0]


def runs_up_to(heights, tier):
    """Pairs of the first slot and the length of the greatest runs of slots of a height of at most a tier."""
    runs = []
    for slot, height in enumerate(heights):
        if height > tier:
            continue
        if runs and sum(runs[-1]) == slot:
            runs[-1] = (runs[-1][0], runs[-1][1] + 1)
        else:
            runs.append((slot, 1))
    return runs


def fill_with_forties(columns, tiers):
    """The slots of the boxes of 40 feet that bring each slot to a height, tier by tier; or None."""
    heights = [len(column) for column in columns]
    if max([0, *heights]) > tiers:
        return None
    found = []
    for tier in range(tiers):
        for first, length in runs_up_to(heights, tier):
            if length % 2 == 1:
                return None
            found.extend(list(range(first, first + length, 2)))
    return tuple(found)


def lesser(first, second):
    """The lesser of two pairs (sum, counts), of which each may be None."""
    if first is None or second is None:
        return second if first is None else first
    return min(first, second)


def joined(first, second):
    """The sum and the counts of two neighbouring stretches, None if one of them is."""
    if first is None or second is None:
        return None
    return first[0] + second[0], first[1] + second[1]


def raised_to(columns, slot, tier):
    """How many boxes of 20 feet bring a slot to a height, as a pair (sum, counts); None if none do."""
    count = tier - len(columns[slot])
    if count < 0 or (count > 0 and feet_at_top(columns, slot) == 40):
        return None
    return count, (count,)


def prepared(columns, tier, lower):
    """For each pair (start, stop) the least (sum, counts) that bring the slots from start to before stop to heights of
    at most a tier, so that boxes of 40 feet alone can fill them up to it; None if there is none."""
    found = {}
    for start in range(len(columns) + 1):
        found[(start, start)] = (0, ())
        for stop in range(start + 1, len(columns) + 1):
            # The last slot has this height, or it ends a stretch of lower ones, whose boxes in the tier below
            # stand in pairs: an even number of slots. (Two such stretches side by side are one, even as well.)
            best = joined(found[(start, stop - 1)], raised_to(columns, stop - 1, tier))
            for first in range(stop - 2, start - 1, -2):
                best = lesser(best, joined(found[(start, first)], lower.get((first, stop))))
            found[(start, stop)] = best
    return found


def twenties_to_prepare(columns, tiers):
    """How many boxes of 20 feet to place on each slot so that boxes of 40 feet alone bring each one to a height."""
    found = {}
    for tier in range(tiers + 1):
        found = prepared(columns, tier, found)
    best = found[(0, len(columns))]
    return None if best is None else best[1]
