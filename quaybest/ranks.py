"""Ranks of assignable codes, patterns with unknown characters, and ranges."""

from quaybest.codes import BY_VALUE, WEIGHTS, BadCode, allowed_at, check_assignable, check_form, weighed
from quaybest.errors import QuayError


class NoCode(QuayError):
    """No assignable code has this rank."""


class BadRange(QuayError):
    """A pair of codes is no range, or ranges hold too many codes."""

    def __init__(self, number, reason):
        self.number = number
        self.reason = reason


def counts_with_digit(behind, weight):
    """Counts by remainder, with a digit of this weight ahead of what is counted in others."""
    counts = [0] * 11
    for digit in range(10):
        for left in range(11):
            counts[(left + digit * weight) % 11] += behind[left]
    return counts


def ending_counts():
    """For each position from 4 to 10, how many endings of a body from there on have each remainder."""
    counts = {10: [1] + [0] * 10}
    for position in (9, 8, 7, 6, 5, 4):
        counts[position] = counts_with_digit(counts[position + 1], WEIGHTS[position])
    return counts


def assignable_endings(behind, total):
    """How many of the counted endings are assignable behind characters with this total."""
    return sum(behind) - behind[(10 - total) % 11]


def many_codes(counts, prefix):
    """The number of assignable codes with a prefix."""
    return assignable_endings(counts[4], weighed(prefix))


def rank_in(counts, code):
    """The rank of an assignable code, by the counts of endings."""
    number = 0
    for position in range(4, 10):
        total = weighed(code[:position])
        for digit in range(int(code[position])):
            number += assignable_endings(counts[position + 1], total + digit * WEIGHTS[position])
    return number


def code_at(counts, prefix, number):
    """The assignable code with a prefix and a rank that there is, by the counts of endings."""
    body = prefix
    left = number
    for position in range(4, 10):
        total = weighed(body)
        digit = 0
        passed = assignable_endings(counts[position + 1], total)
        while left >= passed:
            left -= passed
            digit += 1
            passed = assignable_endings(counts[position + 1], total + digit * WEIGHTS[position])
        body += str(digit)
    return body + str(weighed(body))


def rank(code):
    """How many assignable codes with the same prefix come before this one."""
    check_assignable(code)
    return rank_in(ending_counts(), code)


def nth(prefix, number):
    """The assignable code with a prefix and a rank."""
    check_form(prefix, 4)
    counts = ending_counts()
    if number < 0 or number >= many_codes(counts, prefix):
        raise NoCode("no assignable code of this prefix has this rank")
    return code_at(counts, prefix, number)


def check_pattern(pattern):
    """Raise BadCode unless the text is a code in which at most three characters are unknown."""
    if len(pattern) != 11:
        raise BadCode("length", None)
    for position, character in enumerate(pattern):
        if character != "?" and character not in allowed_at(position):
            raise BadCode("character", position)
    if pattern.count("?") > 3:
        raise BadCode("unknown", None)


def bodies_like(pattern):
    """Pairs (body, remainder), ascending, of all bodies that have the known characters of a pattern."""
    rows = [("", 0)]
    for position in range(10):
        characters = pattern[position]
        if characters == "?":
            characters = allowed_at(position)
        rows = [(text + character, (total + BY_VALUE.find(character) * WEIGHTS[position]) % 11)
                for text, total in rows for character in characters]
    return rows


def matches(pattern, *, most=50):
    """The number of assignable codes that fit a pattern, and the first of them."""
    check_pattern(pattern)
    found = [body + str(digit) for body, digit in bodies_like(pattern)
             if digit != 10 and pattern[10] in ("?", str(digit))]
    return len(found), tuple(found[:most])


def to_ranges(codes):
    """The fewest ranges that together hold exactly the codes of a list."""
    for code in codes:
        check_assignable(code)
    counts = ending_counts()
    rows = []
    following = None
    for code in sorted(set(codes)):
        prefix = code[:4]
        number = rank_in(counts, code)
        if (prefix, number) == following:
            rows[-1] = (rows[-1][0], code)
        else:
            rows.append((code, code))
        following = (prefix, number + 1)
    return tuple(rows)


def check_ranges(ranges):
    """Raise BadCode or BadRange for the first pair that is no range."""
    for number, (first, last) in enumerate(ranges):
        check_assignable(first)
        check_assignable(last)
        if first[:4] != last[:4]:
            raise BadRange(number, "prefix")
        if last < first:
            raise BadRange(number, "order")


def expand_ranges(ranges):
    """The codes that ranges hold, ascending, each once."""
    check_ranges(ranges)
    counts = ending_counts()
    rows = [(first[:4], rank_in(counts, first), rank_in(counts, last) + 1) for first, last in ranges]
    # The ranks tell how many codes there are before any of them is made.
    if sum([stop - start for prefix, start, stop in rows]) > 200:
        raise BadRange(None, "many")
    codes = [code_at(counts, prefix, number) for prefix, start, stop in rows for number in range(start, stop)]
    return tuple(sorted(set(codes)))
