"""Counts of codes, and changes of them."""

from quaybest.errors import QuayError
from quaybest.messages import ITEM_CHARACTERS, is_word

MOST = 1000000
LONGEST_CODE = 11


class BadCounts(QuayError):
    """A dict should be counts, or a change, and is not."""

    def __init__(self, code):
        self.code = code


class Negative(QuayError):
    """A count would be less than 0."""

    def __init__(self, code):
        self.code = code


def check_numbers(numbers, least):
    """Raise BadCounts for the first code that is none, or whose number is 0 or out of range."""
    for code in sorted(numbers):
        number = numbers[code]
        if not is_word(code, ITEM_CHARACTERS, LONGEST_CODE) or number < least or number > MOST or number == 0:
            raise BadCounts(code)


def check_counts(counts):
    """Raise BadCounts unless a dict is counts."""
    check_numbers(counts, 1)


def check_change(change):
    """Raise BadCounts unless a dict is a change."""
    check_numbers(change, -MOST)


def summed(dicts):
    """The sum of dicts of numbers: their codes ascending, without 0."""
    totals = {}
    for numbers in dicts:
        for code, number in numbers.items():
            totals[code] = totals.get(code, 0) + number
    return {code: totals[code] for code in sorted(totals) if totals[code] != 0}


def negated(numbers):
    """The numbers with the other sign."""
    return {code: -numbers[code] for code in sorted(numbers)}


def total_of(lists):
    """The sum of the counts of a list."""
    for counts in lists:
        check_counts(counts)
    return summed(lists)


def difference(start, stop):
    """The change that leads from counts to others."""
    check_counts(start)
    check_counts(stop)
    return summed([stop, negated(start)])


def compose(first, second):
    """The change that makes two changes, one behind the other."""
    check_change(first)
    check_change(second)
    return summed([first, second])


def inverse(change):
    """The change that takes a change back."""
    check_change(change)
    return negated(change)


def applied(counts, change):
    """The counts behind a change."""
    check_counts(counts)
    check_change(change)
    found = summed([counts, change])
    for code, number in found.items():
        if number < 0:
            raise Negative(code)
    return found


def merged_count(base, mine, theirs):
    """What the counts of a code are merged to; None for a conflict."""
    if mine == base:
        return theirs
    return mine if theirs in (base, mine) else None


def merge(base, mine, theirs):
    """The merged counts of two versions of a base, and the conflicts, ascending."""
    for counts in (base, mine, theirs):
        check_counts(counts)
    found = {}
    conflicts = []
    for code in sorted(set([*base, *mine, *theirs])):
        row = (base.get(code, 0), mine.get(code, 0), theirs.get(code, 0))
        count = merged_count(row[0], row[1], row[2])
        if count is None:
            conflicts.append((code, *row))
            count = row[0]
        if count > 0:
            found[code] = count
    return found, tuple(conflicts)
