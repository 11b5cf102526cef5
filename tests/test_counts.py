"""[O1], [O4] and quaybest.counts."""

import copy
import itertools
import random

from quaybest.counts import (BadCounts, Negative, applied, check_change, check_counts, compose, difference, inverse, merge,
                             total_of)
from support import Case

CODES = ("A", "Z", "0", "9", "CSQU3054383", "ABCDEFGHIJK")
WRONG_CODES = ("", "CSQU30543831", "a", "A B", "A-1", "\u00c4", "\u0661", "A\n")


def some_counts(chance, least=1):
    codes = ["B", "A1", "A", "0"]
    chance.shuffle(codes)
    return {code: chance.choice([k for k in range(least, 4) if k]) for code in codes if chance.random() < 0.6}


def told(numbers):
    """Numbers by code as they are returned: ascending, without 0."""
    return {code: numbers[code] for code in sorted(numbers) if numbers[code]}


def told_sum(*dicts):
    return told({code: sum(row.get(code, 0) for row in dicts) for row in dicts for code in row})


def told_merge(base, mine, theirs):
    """By [O4]."""
    found, conflicts = {}, []
    for code in sorted({*base, *mine, *theirs}):
        b, m, t = (row.get(code, 0) for row in (base, mine, theirs))
        if m != b and t != b and m != t:
            conflicts.append((code, b, m, t))
        found[code] = b if m != b and t != b and m != t else m if m == t or t == b else t
    return told(found), tuple(conflicts)


class CheckTest(Case):
    """[O1]: what are counts and changes."""

    def test_allowed(self):
        for code in CODES:
            for number in (1, 1000000):
                self.same(check_counts({code: number}), None)
            for number in (1, 1000000, -1, -1000000):
                self.same(check_change({code: number}), None)
        self.same((check_counts({}), check_change({})), (None, None))

    def test_wrong_numbers(self):
        for number in (0, -1, 1000001):
            self.refused(BadCounts, check_counts, {"A": 1, "B": number}, told={"code": "B"})
        for number in (0, -1000001, 1000001):
            self.refused(BadCounts, check_change, {"A": -1, "B": number}, told={"code": "B"})

    def test_wrong_codes(self):
        for call in (check_counts, check_change):
            for code in WRONG_CODES:
                self.refused(BadCounts, call, {"A1": 1, code: 5}, told={"code": code})

    def test_first_code_ascending(self):
        for call in (check_counts, check_change):
            for codes in itertools.permutations(["B", "A", "a", "C"]):
                self.refused(BadCounts, call, {code: 0 for code in codes}, told={"code": "A"})
            self.refused(BadCounts, call, {"b": 1, "A": 5, "B": 0}, told={"code": "B"})


class ChangeTest(Case):
    """Sums and changes."""

    def test_example(self):
        self.same(compose({"A1": 2}, {"A1": -2, "B2": 1}), {"B2": 1})

    def test_nothing(self):
        self.same((total_of([]), total_of([{}, {}]), difference({}, {}), compose({}, {}), inverse({}), applied({}, {})),
                  ({}, {}, {}, {}, {}, {}))
        self.same(merge({}, {}, {}), ({}, ()))

    def test_beyond_the_limits(self):
        most = {"A": 1000000}
        self.same(total_of([most, most, {"A": 1}]), {"A": 2000001})
        self.same(total_of((most,)), {"A": 1000000})
        self.same(compose(most, most), {"A": 2000000})
        self.same(compose({"A": -1000000}, {"A": -1000000}), {"A": -2000000})
        self.same(applied(most, most), {"A": 2000000})
        self.same(difference(most, {}), {"A": -1000000})

    def test_codes_ascending(self):
        self.same(total_of([{"B": 1}, {"C": 2, "A": 3}, {"B": 4}]), {"A": 3, "B": 5, "C": 2})
        self.same(difference({"C": 1, "B": 2}, {"C": 1, "A": 2}), {"A": 2, "B": -2})
        self.same(inverse({"C": 1, "B": -2}), {"B": 2, "C": -1})
        self.same(applied({"C": 1, "B": 2}, {"B": -2, "A": 1}), {"A": 1, "C": 1})

    def test_negative(self):
        self.refused(Negative, applied, {"C": 1, "A": 9}, {"C": -2, "B": -1, "A": -9}, told={"code": "B"})
        self.refused(Negative, applied, {"C": 1}, {"C": -2}, told={"code": "C"})
        self.same(applied({"C": 2}, {"C": -2}), {})

    def test_random_changes(self):
        chance = random.Random(1)
        for _ in range(500):
            first, second, third = (some_counts(chance) for _ in range(3))
            change, other = (some_counts(chance, -3) for _ in range(2))
            self.same(total_of([first, second, third]), told_sum(first, second, third))
            self.same(difference(first, second), told_sum(second, {code: -k for code, k in first.items()}))
            self.same(applied(first, difference(first, second)), told(second))
            self.same(compose(change, other), told_sum(change, other))
            self.same(inverse(change), told({code: -k for code, k in change.items()}))
            self.same(compose(change, inverse(change)), {})
            wanted = told_sum(first, change)
            below = [code for code in wanted if wanted[code] < 0]
            if below:
                self.refused(Negative, applied, first, change, told={"code": below[0]})
            else:
                self.same(applied(first, change), wanted)


class MergeTest(Case):
    """[O4]: merging."""

    def test_each_case(self):
        base = {"A": 5, "B": 5, "C": 5, "D": 5, "E": 5, "F": 5}
        mine = {"A": 5, "B": 6, "C": 7, "D": 7, "F": 4, "H": 1, "J": 2}
        theirs = {"A": 6, "B": 5, "C": 7, "D": 8, "E": 5, "I": 1, "J": 3}
        self.same(merge(base, mine, theirs), ({"A": 6, "B": 6, "C": 7, "D": 5, "F": 5, "H": 1, "I": 1},
                                              (("D", 5, 7, 8), ("F", 5, 4, 0), ("J", 0, 2, 3))))

    def test_all_small_cases(self):
        for numbers in itertools.product(range(4), repeat=3):
            rows = [{"A": number} if number else {} for number in numbers]
            self.same(merge(*rows), told_merge(*rows))

    def test_random_counts(self):
        chance = random.Random(2)
        for _ in range(300):
            rows = [some_counts(chance) for _ in range(3)]
            self.same(merge(*rows), told_merge(*rows))


class ErrorsTest(Case):
    """Wrong arguments, and arguments that stay as they are."""

    def test_first_wrong_argument(self):
        good, bad, worse = {"A": 1}, {"C": 0}, {"B": -1, "A": 0}
        for rows in itertools.product((good, bad, worse), repeat=3):
            wrong = [row for row in rows if row != good]
            if wrong:
                code = "C" if wrong[0] == bad else "A"
                self.refused(BadCounts, total_of, list(rows), told={"code": code})
                self.refused(BadCounts, merge, *rows, told={"code": code})
        for call in (difference, applied, compose):
            self.refused(BadCounts, call, bad, worse, told={"code": "C"})
            self.refused(BadCounts, call, good, worse, told={"code": "A"})
            self.refused(BadCounts, call, worse, bad, told={"code": "A"})
        self.refused(BadCounts, inverse, worse, told={"code": "A"})

    def test_counts_and_changes_are_told_apart(self):
        down = {"A": -1}
        self.refused(BadCounts, total_of, [down], told={"code": "A"})
        self.refused(BadCounts, difference, down, {}, told={"code": "A"})
        self.refused(BadCounts, difference, {}, down, told={"code": "A"})
        self.refused(BadCounts, applied, down, {"A": 5}, told={"code": "A"})
        self.same((compose(down, down), inverse(down)), ({"A": -2}, {"A": 1}))
        # What is wrong is told ahead of what would be below 0.
        self.refused(BadCounts, applied, {"B": 1}, {"A": -1, "B": 0}, told={"code": "B"})

    def test_arguments_are_not_changed(self):
        rows = [{"B": 1, "A": 2}, {"A": 3}, {"C": 1}]
        given = copy.deepcopy(rows)
        for found in (total_of(given), total_of(given[:1]), difference(given[2], given[0]), compose(given[0], {}),
                      applied(given[0], {}), inverse(given[0]), merge(*given)[0], merge(given[0], given[0], given[0])[0]):
            found["A"] = 99
            self.assertEqual([list(row.items()) for row in given], [list(row.items()) for row in rows])
