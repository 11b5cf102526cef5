"""The stability of ships: loads, water in tanks, heights, heel and trim."""

from quaybest.fractions import added, divided, fraction, is_less, subtracted

ZERO = (0, 1)


class Hull:
    """A ship: its empty weight, its curve, its tanks and its limits."""

    def __init__(self, lightship, curve, tanks, *, height, heel, trim):
        self.lightship = tuple(lightship)
        self.curve = tuple([tuple(row) for row in curve])
        self.tanks = tuple([tuple(tank) for tank in tanks])
        self.height = height
        self.heel = heel
        self.trim = trim


def totals(loads):
    """The weight of loads, and the sums of their moments."""
    weight = sum([load[0] for load in loads])
    moments = [sum([load[0] * load[axis] for load in loads]) for axis in (1, 2, 3)]
    return (weight, *moments)


def interpolated(curve, known, asked, at):
    """The value in the column asked where the known column has the value at, between the first and last row."""
    number = 1
    while curve[number][known] < at:
        number += 1
    low = curve[number - 1]
    high = curve[number]
    share = fraction((high[asked] - low[asked]) * (at - low[known]), high[known] - low[known])
    return added(fraction(low[asked]), share)


def displacement(curve, draught):
    """The displacement at a draught."""
    return interpolated(curve, 0, 1, draught)


def draught_at(curve, weight):
    """The draught at which a weight is the displacement."""
    return interpolated(curve, 1, 0, weight)


def loaded_totals(hull, loads, fills):
    """The totals of the lightship, the loads and the water."""
    water = [(fill, tank[1], tank[2], tank[3]) for tank, fill in zip(hull.tanks, fills)]
    return totals([hull.lightship, *loads, *water])


def slack_sum(hull, fills):
    """The sum of the slacks of all slack tanks."""
    return sum([tank[4] for tank, fill in zip(hull.tanks, fills) if 0 < fill < tank[0]])


def height_of(hull, total, slacks):
    """The metacentric height for totals and slacks; None off the curve."""
    weight = total[0]
    if weight < hull.curve[0][1] or weight > hull.curve[-1][1]:
        return None
    return subtracted(interpolated(hull.curve, 1, 2, weight), fraction(total[3] + slacks, weight))


def heel_of(total, height):
    """The heel for totals and a metacentric height; None where there is none."""
    if height is None or not is_less(ZERO, height):
        return None
    return divided(fraction(total[2], total[0]), height)


def trim_of(total):
    """The trim for totals."""
    return fraction(total[1], total[0])


def exceeds(value, limit):
    """True if a fraction, whatever its sign, is above a limit."""
    return is_less(limit, (abs(value[0]), value[1]))


def words_for(hull, total, slacks):
    """The violations for totals and slacks."""
    height = height_of(hull, total, slacks)
    if height is None:
        return ("curve",)
    words = []
    if is_less(height, fraction(hull.height)):
        words.append("height")
    tilt = heel_of(total, height)
    if tilt is not None and exceeds(tilt, fraction(hull.heel, 1000)):
        words.append("heel")
    if exceeds(trim_of(total), fraction(hull.trim)):
        words.append("trim")
    return tuple(words)


def metacentric_height(hull, loads, fills):
    """The metacentric height; None off the curve."""
    return height_of(hull, loaded_totals(hull, loads, fills), slack_sum(hull, fills))


def heel(hull, loads, fills):
    """The heel; None where there is none."""
    return heel_of(loaded_totals(hull, loads, fills), metacentric_height(hull, loads, fills))


def trim(hull, loads, fills):
    """The trim."""
    return trim_of(loaded_totals(hull, loads, fills))


def violations(hull, loads, fills):
    """The words of what is violated."""
    return words_for(hull, loaded_totals(hull, loads, fills), slack_sum(hull, fills))


def ballasts(hull):
    """All ballasts, in the order of their fills."""
    rows = [()]
    for tank in hull.tanks:
        rows = [(*row, fill) for row in rows for fill in (0, tank[0])]
    return rows


def least_ballast(hull, loads):
    """The fills of the least ballast, or None."""
    best = None
    for fills in ballasts(hull):
        if best is not None and sum(fills) >= sum(best):
            continue
        if not violations(hull, loads, fills):
            best = fills
    return best


def loads_of(loads, mask):
    """The loads whose bits are set in a mask."""
    return [load for number, load in enumerate(loads) if mask & (1 << number)]


def completable(hull, loads, fills):
    """For each mask of loads: True if the ship is stable with them, and some order goes on to all loads."""
    full = (1 << len(loads)) - 1
    found = [False] * (full + 1)
    for mask in range(full, -1, -1):
        onward = mask == full or any([found[mask | (1 << number)] for number in range(len(loads))
                                      if not mask & (1 << number)])
        found[mask] = onward and not violations(hull, loads_of(loads, mask), fills)
    return found


def loading_order(hull, loads, fills):
    """The first loading order, or None."""
    # Whether the ship is stable depends on which loads it has, not on their order.
    possible = completable(hull, loads, fills)
    if not possible[0]:
        return None
    order = []
    mask = 0
    while len(order) < len(loads):
        number = 0
        while mask & (1 << number) or not possible[mask | (1 << number)]:
            number += 1
        order.append(number)
        mask = mask | (1 << number)
    return tuple(order)
