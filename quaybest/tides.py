"""Tides over sills: levels between waters, and the starts and draughts that they allow."""

from quaybest.errors import QuayError
from quaybest.fractions import fraction
from quaybest.intervals import LAST_MINUTE, common, merged

# By part: the twelfths that the level has moved ahead of it, and those that it moves during it.
AHEAD = (0, 1, 3, 6, 9, 11)
DURING = (1, 2, 3, 3, 2, 1)
GREATEST_DRAUGHT = 5000


class BadTide(QuayError):
    """A tide is not as it should be."""

    def __init__(self, number):
        self.number = number


class BadSills(QuayError):
    """Sills are not as they should be."""

    def __init__(self, number):
        self.number = number


def check_tide(tide):
    """Raise BadTide with the first wrong pair, or with None for too few or too many."""
    if len(tide) < 2 or len(tide) > 60:
        raise BadTide(None)
    least = 0
    for number, (minute, height) in enumerate(tide):
        if minute < least or minute > LAST_MINUTE or height < -500 or height > 2000:
            raise BadTide(number)
        least = minute + 1


def check_sills(sills):
    """Raise BadSills with the first wrong pair, or with None for too few or too many."""
    if len(sills) < 1 or len(sills) > 12:
        raise BadSills(None)
    if sills[0][0] != 0:
        raise BadSills(0)
    least = 0
    for number, (after, depth) in enumerate(sills):
        if after < least or after > 600 or depth < 0 or depth > 3000:
            raise BadSills(number)
        least = after + 1


def raised(first, second, minute):
    """How far the level between two waters is above height 0, times 12 times their distance in minutes."""
    start, height = first
    stop, further = second
    span = stop - start
    sixths = 6 * (minute - start)
    # At the second water itself part 5 ends; there is no part 6.
    part = min(sixths // span, 5)
    moved = AHEAD[part] * span + DURING[part] * (sixths - part * span)
    return 12 * span * height + (further - height) * moved


def level_at(tide, minute):
    """The level at a minute, or None, of a tide that is as it should be."""
    if minute < tide[0][0] or minute > tide[-1][0]:
        return None
    number = 1
    while tide[number][0] < minute:
        number += 1
    first = tide[number - 1]
    second = tide[number]
    return fraction(raised(first, second, minute), 12 * (second[0] - first[0]))


def is_reached(first, second, minute, least):
    """True if the level between two waters is at least this at a minute."""
    return raised(first, second, minute) >= 12 * (second[0] - first[0]) * least


def first_reached(first, second, least):
    """The first minute with at least this level between two waters that do not fall, if the second has it."""
    low = first[0]
    high = second[0]
    while low < high:
        middle = (low + high) // 2
        if is_reached(first, second, middle, least):
            high = middle
        else:
            low = middle + 1
    return low


def last_reached(first, second, least):
    """The last minute with at least this level between two waters that fall, if the first has it."""
    low = first[0]
    high = second[0]
    while low < high:
        middle = (low + high + 1) // 2
        if is_reached(first, second, middle, least):
            low = middle
        else:
            high = middle - 1
    return low


def high_minutes(tide, least):
    """The minutes with at least this level, of a tide that is as it should be."""
    rows = []
    for number in range(1, len(tide)):
        first = tide[number - 1]
        second = tide[number]
        if first[1] <= second[1] and second[1] >= least:
            rows.append((first_reached(first, second, least), second[0]))
        elif first[1] > second[1] and first[1] >= least:
            rows.append((first[0], last_reached(first, second, least)))
    return merged(rows)


def starts_for(tide, sills, draught):
    """The passable starts, of a tide and sills that are as they should be."""
    rows = ((0, LAST_MINUTE),)
    for after, depth in sills:
        passing = [(start - after, stop - after) for start, stop in high_minutes(tide, draught - depth)]
        rows = common(rows, passing)
    return rows


def level(tide, minute):
    """The level at a minute, a fraction; None where the tide is not defined."""
    check_tide(tide)
    return level_at(tide, minute)


def minutes_at_least(tide, least):
    """The minutes at which the level is at least this."""
    check_tide(tide)
    return high_minutes(tide, least)


def passable_starts(tide, sills, draught):
    """The minutes that are passable starts for a draught."""
    check_tide(tide)
    check_sills(sills)
    return starts_for(tide, sills, draught)


def deepest_draught(tide, sills, start):
    """The greatest draught for which a start is passable, or None."""
    check_tide(tide)
    check_sills(sills)
    deepest = GREATEST_DRAUGHT
    for after, depth in sills:
        height = level_at(tide, start + after)
        if height is None:
            return None
        deepest = min(deepest, height[0] // height[1] + depth)
    if deepest < 0:
        return None
    return deepest


def deepest_draught_in(tide, sills, start, stop):
    """The greatest draught for which one of these starts is passable, and the first such start; or None."""
    check_tide(tide)
    check_sills(sills)
    asked = ((start, stop),)
    low = 0
    high = GREATEST_DRAUGHT
    if not common(starts_for(tide, sills, low), asked):
        return None
    # A start that is passable for a draught is so for each lesser one, so halving finds the greatest.
    while low < high:
        middle = (low + high + 1) // 2
        if common(starts_for(tide, sills, middle), asked):
            low = middle
        else:
            high = middle - 1
    return low, common(starts_for(tide, sills, low), asked)[0][0]
