"""Formulas piece by piece: between some ratios of value and weight each one is linear."""

from quaybest.formulas import duty, parts_of
from quaybest.fractions import added, divided, fraction, is_less, multiplied, subtracted

ZERO = (0, 1)
ONE = (1, 1)
HALF = (1, 2)


def line_at(rows, ratio):
    """The pair (p, q) of the piece that holds from a ratio on."""
    return [(p, q) for start, p, q in rows if not is_less(ratio, start)][-1]


def worth(line, ratio):
    """The duty by a line (p, q) for one kilo with this ratio."""
    return added(multiplied(line[0], ratio), line[1])


def ascending(ratios):
    """The different ones of some ratios, ascending."""
    found = []
    for ratio in ratios:
        place = len([other for other in found if is_less(other, ratio)])
        if ratio not in found:
            found.insert(place, ratio)
    return found


def crossing(first, second):
    """The ratio at which two lines (p, q) give the same; None if they do for all ratios or for none."""
    if first[0] == second[0]:
        return None
    return divided(subtracted(second[1], first[1]), subtracted(first[0], second[0]))


def side_by_side(first, second):
    """The pieces of two formulas between whose starts neither changes nor crosses the other one: rows of a start and
    of the lines of both."""
    starts = ascending([row[0] for row in [*first, *second]])
    crossings = []
    for start, stop in zip(starts, [*starts[1:], None]):
        ratio = crossing(line_at(first, start), line_at(second, start))
        if ratio is not None and is_less(start, ratio) and (stop is None or is_less(ratio, stop)):
            crossings.append(ratio)
    return [(start, line_at(first, start), line_at(second, start)) for start in ascending(starts + crossings)]


def joined(rows):
    """The pieces without those that go on as the one ahead of them."""
    return tuple([row for number, row in enumerate(rows) if number == 0 or row[1:] != rows[number - 1][1:]])


def summed(first, second):
    """The pieces of the sum of two formulas."""
    return joined([(start, added(line[0], other[0]), added(line[1], other[1]))
                   for start, line, other in side_by_side(first, second)])


def is_below(start, line, other):
    """True if one line gives less than another one behind a start, where they do not cross."""
    if worth(line, start) == worth(other, start):
        return is_less(line[0], other[0])
    return is_less(worth(line, start), worth(other, start))


def chosen(first, second, word):
    """The pieces of the greater, or of the less, of two formulas."""
    rows = []
    for start, line, other in side_by_side(first, second):
        takes_other = is_below(start, line, other) == (word == "greater")
        rows.append((start, *other) if takes_other else (start, *line))
    return joined(rows)


def pieces(tree):
    """The pieces of a formula."""
    if tree[0] == "percent":
        return ((ZERO, fraction(tree[1], 100), ZERO),)
    if tree[0] == "kilo":
        return ((ZERO, ZERO, fraction(tree[1])),)
    parts = [pieces(part) for part in parts_of(tree)]
    if tree[0] == "half":
        return tuple([(start, multiplied(p, HALF), multiplied(q, HALF)) for start, p, q in parts[0]])
    if tree[0] != "sum":
        return chosen(parts[0], parts[1], tree[0])
    total = parts[0]
    for part in parts[1:]:
        total = summed(total, part)
    return total


def is_equivalent(first, second):
    """True if two formulas give the same duty for every parcel."""
    return pieces(first) == pieces(second)


def is_at_most(first, second):
    """True if the first formula gives more than the second one for no parcel."""
    return is_equivalent(("greater", first, second), second)


def is_convex(tree):
    """True if parcels together never give more than by themselves."""
    rows = pieces(tree)
    # Pieces meet where one begins, so neighbours differ in p.
    return all([is_less(row[1], after[1]) for row, after in zip(rows, rows[1:])])


def is_concave(tree):
    """True if parcels together never give less than by themselves."""
    rows = pieces(tree)
    return all([is_less(after[1], row[1]) for row, after in zip(rows, rows[1:])])


def simplest_between(low, high):
    """The fraction with the least denominator between two ratios, and the least of those; no end if high is None."""
    whole = low[0] // low[1]
    if high is None or is_less((whole + 1, 1), high):
        return whole + 1, 1
    # No whole number lies between: so the same is asked of what 1 over the rest can be.
    low_rest = subtracted(low, (whole, 1))
    high_rest = subtracted(high, (whole, 1))
    number, divisor = simplest_between(divided(ONE, high_rest), None if low_rest == ZERO else divided(ONE, low_rest))
    return whole * number + divisor, number


def first_difference(first, second):
    """The parcel with the least weight, and of these the least value, for which two formulas differ; or None."""
    rows = pieces(first)
    others = pieces(second)
    if rows == others:
        return None
    if rows[-1][1] != others[-1][1]:
        return 1, 0
    together = side_by_side(rows, others)
    stops = [*[row[0] for row in together[1:]], None]
    differing = []
    for (start, line, other), stop in zip(together, stops):
        # Lines that differ do so everywhere between the starts.
        if line != other:
            differing.append(simplest_between(start, stop))
        if worth(line, start) != worth(other, start):
            differing.append(start)
    weight, value = min([(divisor, number) for number, divisor in differing])
    return value, weight


def separate(tree, parcels):
    """The sum of the duties of parcels."""
    total = ZERO
    for value, weight in parcels:
        total = added(total, duty(tree, value, weight))
    return total


def combined(tree, parcels):
    """The duty of one parcel with all the value and weight of some."""
    return duty(tree, sum([parcel[0] for parcel in parcels]), sum([parcel[1] for parcel in parcels]))


def cheapest(trees, value, weight):
    """The index of the first formula with the least duty, and this duty."""
    best = (0, duty(trees[0], value, weight))
    for number, tree in enumerate(trees):
        told = duty(tree, value, weight)
        if is_less(told, best[1]):
            best = (number, told)
    return best
