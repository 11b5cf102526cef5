"""Codes that were misread: what is short in a tally is matched with what is over."""

from quaybest.counts import check_counts, negated, summed
from quaybest.errors import QuayError
from quaybest.search import all_places

MOST_CODES = 6


class TooManyCodes(QuayError):
    """More codes are short, or over, than are looked through."""


def is_misread(first, second):
    """True if two codes may be misread for each other."""
    if len(first) != len(second):
        return False
    return len([place for place, character in enumerate(first) if character != second[place]]) == 1


def covers(short, over, pairs):
    """Rows of a sum and of codes, of which each pair has one or both: for any of the short codes, themselves and the
    over codes that the pairs of the others need."""
    found = []
    for choice in all_places(len(short), 2):
        chosen = [code for code, is_chosen in zip(short, choice) if is_chosen == 1]
        needed = sorted(set([second for first, second in pairs if first not in chosen]))
        total = sum([short[code] for code in chosen]) + sum([over[code] for code in needed])
        found.append((total, [*chosen, *needed]))
    return found


def greatest_number(short, over, pairs):
    """The greatest number that the first of some pairs has in a matching of them with the greatest sum."""
    first, second = pairs[0]
    rows = covers(short, over, pairs)
    # The greatest sum is that of the least cover. Each one for this pair takes 2 off the covers that have both of its
    # codes, 1 off the others: so what the former have more than the least is what this pair can have.
    least = min([total for total, _ in rows])
    spare = [total - least for total, codes in rows if first in codes and second in codes]
    return min([short[first], over[second], *spare])


def without_zeros(numbers):
    """The numbers other than 0, their codes ascending."""
    return {code: numbers[code] for code in sorted(numbers) if numbers[code] != 0}


def match_misreads(manifest, tally):
    """The numbers of the best matching, and what is short and over beyond it."""
    check_counts(manifest)
    check_counts(tally)
    change = summed([tally, negated(manifest)])
    short = {code: -number for code, number in change.items() if number < 0}
    over = {code: number for code, number in change.items() if number > 0}
    if len(short) > MOST_CODES or len(over) > MOST_CODES:
        raise TooManyCodes("more than 6 codes are short or over")
    pairs = [(first, second) for first in short for second in over if is_misread(first, second)]
    rows = []
    for place, (first, second) in enumerate(pairs):
        number = greatest_number(short, over, pairs[place:])
        short[first] -= number
        over[second] -= number
        if number > 0:
            rows.append((first, second, number))
    return tuple(rows), without_zeros(short), without_zeros(over)
