"""[A4] and quaybest.ranks."""

import bisect
import itertools
import random

from quaybest.codes import BadCode
from quaybest.ranks import BadRange, NoCode, expand_ranges, matches, nth, rank, to_ranges
from support import Case
from test_codes import PLACES, VALUES, told_remainder


def all_assignable(prefix):
    """All assignable codes of a prefix, ascending, by going through all bodies."""
    ahead = sum(VALUES[prefix[i]] * 2 ** i for i in range(4))
    high = [sum(int(c) * 2 ** (4 + i) for i, c in enumerate(f"{n:03d}")) for n in range(1000)]
    low = [sum(int(c) * 2 ** (7 + i) for i, c in enumerate(f"{n:03d}")) for n in range(1000)]
    found = []
    for n in range(1000000):
        digit = (ahead + high[n // 1000] + low[n % 1000]) % 11
        if digit != 10:
            found.append(f"{prefix}{n:06d}{digit}")
    return found


CODES = {prefix: all_assignable(prefix) for prefix in ("CSQU", "ZZZZ")}


class RankTest(Case):
    """[A4]: ranks."""

    def test_rank_and_nth(self):
        for prefix, codes in CODES.items():
            for number in list(range(0, len(codes), 4999)) + [1, 2, 3, 10, len(codes) - 2, len(codes) - 1]:
                self.same(rank(codes[number]), number)
                self.same(nth(prefix, number), codes[number])

    def test_first_and_last_rank(self):
        for prefix, codes in CODES.items():
            self.assertEqual((nth(prefix, 0), rank(codes[0])), (codes[0], 0))
            self.assertEqual(nth(prefix, len(codes) - 1), codes[-1])
            for number in (-1, -1000, len(codes), len(codes) + 1, 10 ** 6, 10 ** 9):
                self.refused(NoCode, nth, prefix, number)

    def test_last_rank_of_other_prefixes(self):
        for prefix in ("AAAJ", "ABCZ", "ZYXU"):
            bodies = [f"{prefix}{n:06d}" for n in range(999980, 1000000)]
            last = max(body + str(told_remainder(body)) for body in bodies if told_remainder(body) != 10)
            self.assertEqual(nth(prefix, rank(last)), last)
            self.refused(NoCode, nth, prefix, rank(last) + 1)

    def test_wrong_codes(self):
        bad = next(f"CSQU{n:06d}0" for n in range(100) if told_remainder(f"CSQU{n:06d}") == 10)
        self.refused(BadCode, rank, bad, told={"reason": "assignable", "position": None})
        self.refused(BadCode, rank, "CSQU3054384", told={"reason": "digit", "position": None})
        self.refused(BadCode, rank, "CSQU305438A", told={"reason": "character", "position": 10})
        self.refused(BadCode, rank, "", told={"reason": "length", "position": None})

    def test_wrong_digit_is_told_before_not_assignable(self):
        bad = next(f"CSQU{n:06d}5" for n in range(100) if told_remainder(f"CSQU{n:06d}") == 10)
        self.refused(BadCode, rank, bad, told={"reason": "digit", "position": None})

    def test_wrong_prefixes(self):
        self.refused(BadCode, nth, "CSQ", 0, told={"reason": "length", "position": None})
        self.refused(BadCode, nth, "CSQU3", -1, told={"reason": "length", "position": None})
        self.refused(BadCode, nth, "CSQA", -1, told={"reason": "character", "position": 3})
        self.refused(BadCode, nth, "C1QA", 0, told={"reason": "character", "position": 1})


def told_matches(pattern):
    places = [PLACES[i] if pattern[i] == "?" else pattern[i] for i in range(11)]
    texts = ["".join(row) for row in itertools.product(*places)]
    return [text for text in texts if told_remainder(text[:10]) == int(text[10])]


class MatchesTest(Case):
    """Patterns with unknown characters."""

    def test_random_patterns(self):
        chance = random.Random(1)
        for _ in range(150):
            text = list(chance.choice(CODES["CSQU"]))
            for place in chance.sample(range(3, 11), chance.randint(0, 3)):
                text[place] = "?"
            if chance.random() < 0.3:
                text[9] = chance.choice("0123456789?" if text.count("?") < 3 else "0123456789")
            pattern = "".join(text)
            wanted = told_matches(pattern)
            for most in (0, 1, 5, len(wanted), 1000):
                self.same(matches(pattern, most=most), (len(wanted), tuple(wanted[:most])))
            self.same(matches(pattern), (len(wanted), tuple(wanted[:50])))

    def test_letters(self):
        for pattern in ("?SQU3054383", "?S?U305438?", "??Q?3054383", "C??U3054383"):
            wanted = told_matches(pattern)
            self.same(matches(pattern, most=10000), (len(wanted), tuple(wanted)))

    def test_fifty_is_the_most_by_itself(self):
        wanted = told_matches("CSQU30???83")
        self.assertGreater(len(wanted), 50)
        self.same(matches("CSQU30???83"), (len(wanted), tuple(wanted[:50])))

    def test_no_unknown_character(self):
        self.same(matches("CSQU3054383"), (1, ("CSQU3054383",)))
        self.same(matches("CSQU3054384"), (0, ()))
        bad = next(f"CSQU{n:06d}0" for n in range(100) if told_remainder(f"CSQU{n:06d}") == 10)
        self.same(matches(bad), (0, ()))
        self.same(matches(bad[:10] + "?"), (0, ()))

    def test_wrong_patterns(self):
        self.refused(BadCode, matches, "CSQU??????", told={"reason": "length", "position": None})
        self.refused(BadCode, matches, "????????????", told={"reason": "length", "position": None})
        self.refused(BadCode, matches, "????305438x", told={"reason": "character", "position": 10})
        self.refused(BadCode, matches, "?SQA??????3", told={"reason": "character", "position": 3})
        self.refused(BadCode, matches, "CSQU3????83", told={"reason": "unknown", "position": None})
        self.refused(BadCode, matches, "???????????", told={"reason": "unknown", "position": None})


def told_fewest(held):
    """The fewest pairs (first, last) of numbers that hold exactly these numbers, by trying."""
    pairs = [(a, b) for a in held for b in held if a <= b and all(k in held for k in range(a, b + 1))]
    for many in range(len(held) + 1):
        for rows in itertools.combinations(pairs, many):
            if {k for a, b in rows for k in range(a, b + 1)} == set(held):
                return many


class RangesTest(Case):
    """[A4]: ranges."""

    def test_fewest_ranges(self):
        codes = CODES["CSQU"][305430:305437]
        for many in range(len(codes) + 1):
            for numbers in itertools.combinations(range(len(codes)), many):
                given = [codes[k] for k in numbers]
                found = to_ranges(given)
                self.assertEqual(len(found), told_fewest(numbers))
                held = [code for first, last in found for code in codes if first <= code <= last]
                self.assertEqual(sorted(held), given)
                self.assertEqual(found, tuple(sorted(found)))
                self.assertTrue(all(first in codes and last in codes for first, last in found))

    def test_order_and_repetition_do_not_matter(self):
        codes = CODES["CSQU"]
        given = [codes[9], codes[3], codes[4], codes[9], codes[5], codes[3]]
        self.same(to_ranges(given), ((codes[3], codes[5]), (codes[9], codes[9])))

    def test_two_prefixes(self):
        one, other = CODES["CSQU"], CODES["ZZZZ"]
        self.same(to_ranges([other[0], one[-1], other[1], one[-2]]), ((one[-2], one[-1]), (other[0], other[1])))
        self.same(to_ranges([other[5], one[4]]), ((one[4], one[4]), (other[5], other[5])))

    def test_two_prefixes_with_ranks_that_follow_one_another(self):
        one, other = nth("CSQJ", 4), CODES["CSQU"][5]
        self.same(to_ranges([one, other]), ((one, one), (other, other)))

    def test_over_each_digit(self):
        codes = CODES["CSQU"]
        for turn in ("CSQU100000", "CSQU110000", "CSQU111000", "CSQU111100", "CSQU111110"):
            place = bisect.bisect(codes, turn)
            self.same(to_ranges(codes[place - 2:place + 2]), ((codes[place - 2], codes[place + 1]),))
            self.same(expand_ranges([(codes[place - 2], codes[place + 1])]), tuple(codes[place - 2:place + 2]))

    def test_over_a_code_that_is_not_assignable(self):
        codes = CODES["CSQU"]
        number = next(k for k in range(100) if int(codes[k + 1][4:10]) - int(codes[k][4:10]) == 2)
        self.same(to_ranges(codes[number:number + 2]), ((codes[number], codes[number + 1]),))

    def test_no_codes(self):
        self.same(to_ranges([]), ())
        self.same(expand_ranges([]), ())

    def test_wrong_codes(self):
        self.refused(BadCode, to_ranges, ["CSQU3054383", "CSQU3054384", "x"], told={"reason": "digit", "position": None})
        self.refused(BadCode, to_ranges, ["CSQU3054383", "x"], told={"reason": "length", "position": None})

    def test_expanded(self):
        codes = CODES["CSQU"]
        self.same(expand_ranges([(codes[5], codes[8]), (codes[2], codes[2]), (codes[7], codes[9])]),
                  (codes[2],) + tuple(codes[5:10]))
        other = CODES["ZZZZ"]
        self.same(expand_ranges([(other[0], other[1]), (codes[-2], codes[-1])]),
                  tuple(codes[-2:]) + tuple(other[:2]))

    def test_expanded_and_back(self):
        chance = random.Random(3)
        codes = CODES["CSQU"]
        for _ in range(30):
            start = chance.randrange(len(codes) - 60)
            given = sorted(chance.sample(codes[start:start + 60], 30))
            self.same(expand_ranges(to_ranges(given)), tuple(given))

    def test_two_hundred_codes_and_more(self):
        codes = CODES["CSQU"]
        start = bisect.bisect(codes, "CSQU3054383")
        whole = (codes[start], codes[start + 199])
        self.same(expand_ranges([whole]), tuple(codes[start:start + 200]))
        self.same(len(expand_ranges([(codes[0], codes[99])] * 2)), 100)
        many = {"number": None, "reason": "many"}
        self.refused(BadRange, expand_ranges, [(codes[start], codes[start + 200])], told=many)
        self.refused(BadRange, expand_ranges, [whole, (codes[start], codes[start])], told=many)
        self.refused(BadRange, expand_ranges, [(codes[0], codes[-1])], told=many)

    def test_wrong_ranges(self):
        codes = CODES["CSQU"]
        good = (codes[0], codes[500])
        self.refused(BadRange, expand_ranges, [good, (codes[2], codes[1])], told={"number": 1, "reason": "order"})
        other = CODES["ZZZZ"]
        self.refused(BadRange, expand_ranges, [(other[1], codes[0])], told={"number": 0, "reason": "prefix"})
        self.refused(BadRange, expand_ranges, [(codes[1], other[1])], told={"number": 0, "reason": "prefix"})
        self.refused(BadCode, expand_ranges, [("x", codes[0])], told={"reason": "length", "position": None})
        self.refused(BadCode, expand_ranges, [(codes[0], "CSQU3054384")], told={"reason": "digit", "position": None})
        self.refused(BadCode, expand_ranges, [("CSQA3054383", "x")], told={"reason": "character", "position": 3})

    def test_first_wrong_range_is_told(self):
        codes = CODES["CSQU"]
        self.refused(BadRange, expand_ranges, [(codes[2], codes[1]), ("x", "y")], told={"number": 0, "reason": "order"})
        self.refused(BadCode, expand_ranges, [("x", "y"), (codes[2], codes[1])], told={"reason": "length", "position": None})
