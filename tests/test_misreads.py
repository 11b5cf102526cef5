"""[O2], [O3] and quaybest.misreads."""

import itertools
import random

from quaybest.counts import BadCounts
from quaybest.misreads import TooManyCodes, is_misread, match_misreads
from support import Case


def told_misread(first, second):
    return len(first) == len(second) and sum(a != b for a, b in zip(first, second)) == 1


def told_match(manifest, tally):
    """Of all matchings the best one, by [O3], and what is left."""
    codes = sorted({*manifest, *tally})
    over = {code: tally.get(code, 0) - manifest.get(code, 0) for code in codes}
    short = {code: -number for code, number in over.items() if number < 0}
    over = {code: number for code, number in over.items() if number > 0}
    pairs = [pair for pair in itertools.product(short, over) if told_misread(*pair)]
    best = ()
    for numbers in itertools.product(*[range(min(short[a], over[b]) + 1) for a, b in pairs]):
        used = {}
        for pair, number in zip(pairs, numbers):
            for code in pair:
                used[code] = used.get(code, 0) + number
        if all(number <= {**short, **over}[code] for code, number in used.items()):
            best = max(best, (sum(numbers), numbers, sorted(used.items())))
    used = dict(best[2])
    left = [{code: number - used.get(code, 0) for code, number in row.items() if number > used.get(code, 0)}
            for row in (short, over)]
    return tuple((*pair, number) for pair, number in zip(pairs, best[1]) if number), *left


class MisreadTest(Case):
    """[O2]: codes that may be misread for each other."""

    def test_pairs(self):
        for first, second, wanted in (("AA", "AB", True), ("AA", "BA", True), ("AA", "BB", False), ("AA", "AA", False),
                                      ("AA", "A", False), ("A", "AA", False), ("A", "B", True), ("ABC", "ADC", True),
                                      ("AB", "BA", False), ("CSQU3054383", "CSQU3054384", True), ("A1", "1A", False)):
            self.same(is_misread(first, second), wanted)

    def test_all_short_codes(self):
        codes = ["".join(letters) for many in (1, 2, 3) for letters in itertools.product("AB1", repeat=many)]
        for first, second in itertools.product(codes, repeat=2):
            self.same(is_misread(first, second), told_misread(first, second))


class MatchTest(Case):
    """[O3]: the best matching."""

    def test_example(self):
        self.same(match_misreads({"AA": 1, "DB": 1}, {"AB": 1, "CA": 1}), ((("AA", "CA", 1), ("DB", "AB", 1)), {}, {}))

    def test_nothing_is_short(self):
        self.same(match_misreads({}, {}), ((), {}, {}))
        self.same(match_misreads({"B": 1, "A": 3}, {"A": 3, "B": 1}), ((), {}, {}))
        self.same(match_misreads({}, {"B": 2, "A": 1}), ((), {}, {"A": 1, "B": 2}))
        self.same(match_misreads({"B": 2, "AA": 1}, {"BC": 5}), ((), {"AA": 1, "B": 2}, {"BC": 5}))

    def test_numbers(self):
        self.same(match_misreads({"A": 5, "B": 2}, {"B": 9}), ((("A", "B", 5),), {}, {"B": 2}))
        self.same(match_misreads({"A": 9}, {"B": 2, "C": 3}), ((("A", "B", 2), ("A", "C", 3)), {"A": 4}, {}))
        self.same(match_misreads({"A": 3}, {"B": 2, "C": 3}), ((("A", "B", 2), ("A", "C", 1)), {}, {"C": 2}))
        self.same(match_misreads({"A": 1000000}, {"B": 1000000}), ((("A", "B", 1000000),), {}, {}))

    def test_small_cases(self):
        chance = random.Random(1)
        many = {}
        for _ in range(2000):
            codes = list({"".join(chance.choice("ABC") for _ in range(2)): True for _ in range(6)})
            rows = [{code: chance.randint(1, 3) for code in chance.sample(codes, chance.randint(0, min(3, len(codes))))}
                    for _ in range(2)]
            found = match_misreads(*rows)
            many[len(found[0])] = True
            self.same(found, told_match(*rows))
        self.assertGreater(len(many), 4)

    def test_large_numbers(self):
        short = {"AA": 500000, "AB": 300000, "AC": 200000}
        over = {"BA": 400000, "BB": 700000, "AD": 150000}
        wanted = ((("AA", "AD", 100000), ("AA", "BA", 400000), ("AB", "BB", 300000), ("AC", "AD", 50000)),
                  {"AC": 150000}, {"BB": 400000})
        self.same(match_misreads(short, over), wanted)

    def test_six_codes_and_seven(self):
        codes = [letter + "X" for letter in "ABCDEF"]
        others = [letter + "Y" for letter in "ABCDEF"]
        six = {code: 1 for code in codes}
        also = {code: 2 for code in others}
        self.same(match_misreads(six, also), (tuple((a, b, 1) for a, b in zip(codes, others)), {}, {b: 1 for b in others}))
        for more in ({"G": 1}, {"GX": 1}):
            self.refused(TooManyCodes, match_misreads, {**six, **more}, also)
            self.refused(TooManyCodes, match_misreads, {**six, **more}, {})
            self.refused(TooManyCodes, match_misreads, six, {**also, **more})
            self.refused(TooManyCodes, match_misreads, {}, {**also, **more})
        # Codes that are there as often as they should be do not count.
        many = {chr(65 + k) * 3: 1 for k in range(20)}
        self.same(match_misreads({**six, **many}, many), ((), six, {}))
        self.same(match_misreads({code: 1 for code in codes + others}, {letter + "Z": 1 for letter in "ABCDEF"} | six)[1:],
                  ({}, {}))

    def test_all_may_be_misread(self):
        short = {letter: 1000000 - k for k, letter in enumerate("ABCDEF")}
        over = {letter: 999999 - 2 * k for k, letter in enumerate("GHIJKL")}
        pairs, short_left, over_left = match_misreads(short, over)
        self.same(over_left, {})
        self.same(pairs[0], ("A", "G", 999999))
        self.same(short_left, {"F": sum(short.values()) - sum(over.values())})

    def test_errors(self):
        many = {chr(65 + k): 1 for k in range(7)}
        self.refused(BadCounts, match_misreads, {"A": 0}, {"a": 1}, told={"code": "A"})
        self.refused(BadCounts, match_misreads, {"A": 1}, {"a": 1, "B": 0}, told={"code": "B"})
        self.refused(BadCounts, match_misreads, many, {"a": 1}, told={"code": "a"})
        self.refused(BadCounts, match_misreads, {"A": -1}, many, told={"code": "A"})

    def test_arguments_are_not_changed(self):
        manifest, tally = {"B": 2, "A": 3}, {"C": 1, "A": 1}
        match_misreads(manifest, tally)
        self.assertEqual((list(manifest.items()), list(tally.items())), ([("B", 2), ("A", 3)], [("C", 1), ("A", 1)]))
