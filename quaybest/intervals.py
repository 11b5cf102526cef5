"""Sets of minutes, told as pairs of a first and a last minute."""

from quaybest.errors import QuayError

LAST_MINUTE = 100000


class BadIntervals(QuayError):
    """Intervals are not as they should be."""

    def __init__(self, number):
        self.number = number


class TooLate(QuayError):
    """A minute would be behind the last one that there is."""


def check_intervals(rows):
    """Raise BadIntervals with the first wrong pair, or with None for too many."""
    if len(rows) > 2000:
        raise BadIntervals(None)
    least = 0
    for number, (start, stop) in enumerate(rows):
        if start < least or stop < start or stop > LAST_MINUTE:
            raise BadIntervals(number)
        least = stop + 2


def merged(rows):
    """The minutes of pairs that may stand in any order, overlap and touch."""
    found = []
    for start, stop in sorted([(row[0], row[1]) for row in rows]):
        if found and start <= found[-1][1] + 1:
            found[-1] = (found[-1][0], max(found[-1][1], stop))
        else:
            found.append((start, stop))
    return tuple(found)


def common(first, second):
    """The minutes that two sets of minutes have in common."""
    found = []
    place = 0
    other = 0
    while place < len(first) and other < len(second):
        start = max(first[place][0], second[other][0])
        stop = min(first[place][1], second[other][1])
        if start <= stop:
            found.append((start, stop))
        # The pair that ends first meets nothing more of the other set.
        if first[place][1] < second[other][1]:
            place += 1
        else:
            other += 1
    return tuple(found)


def complement(rows, last):
    """All minutes from 0 to a last one that a set of minutes does not contain."""
    found = []
    least = 0
    for start, stop in common(rows, ((0, last),)):
        if least < start:
            found.append((least, start - 1))
        least = stop + 1
    if least <= last:
        found.append((least, last))
    return tuple(found)


def intersection(first, second):
    """The minutes that both contain."""
    check_intervals(first)
    check_intervals(second)
    return common(first, second)


def union(first, second):
    """The minutes that at least one of both contains."""
    check_intervals(first)
    check_intervals(second)
    return merged(list(first) + list(second))


def difference(first, second):
    """The minutes that the first one contains and the second one does not."""
    check_intervals(first)
    check_intervals(second)
    return common(first, complement(second, LAST_MINUTE))


def eroded(rows, length):
    """The minutes from which on so many minutes in a row are contained."""
    check_intervals(rows)
    return tuple([(start, stop - length + 1) for start, stop in rows if stop - start + 1 >= length])


def dilated(rows, length):
    """All minutes of rows of so many minutes of which the first one is contained."""
    check_intervals(rows)
    if rows and rows[-1][1] + length - 1 > LAST_MINUTE:
        raise TooLate("a minute would be behind the last one")
    return merged([(start, stop + length - 1) for start, stop in rows])
