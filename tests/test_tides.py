"""[B2], [B3], [B4] and quaybest.tides."""

import random
from fractions import Fraction

from quaybest.tides import (BadSills, BadTide, deepest_draught, deepest_draught_in, level, minutes_at_least,
                            passable_starts)
from support import Case
from test_intervals import told

EXAMPLE = ((0, 0), (360, 600), (720, 60))
STEPS = (Fraction(1, 12), Fraction(2, 12), Fraction(3, 12), Fraction(3, 12), Fraction(2, 12), Fraction(1, 12))


def told_level(tide, minute):
    """The level, part by part, by the words of [B3]; None where the tide is not defined."""
    for (start, height), (stop, further) in zip(tide, tide[1:]):
        if start <= minute <= stop:
            part = Fraction(stop - start, 6)
            result = Fraction(height)
            left = Fraction(minute - start)
            for step in STEPS:
                gone = min(left, part)
                result += (further - height) * step * gone / part
                left -= gone
            return result
    return None


def told_deepest(tide, sills, start):
    """The greatest draught for which a start is passable; below 0 for none at all, None where it is not defined."""
    levels = [told_level(tide, start + after) for after, _ in sills]
    if None in levels:
        return None
    return min((told_level(tide, start + after) + depth).__floor__() for after, depth in sills)


def some_tides(seed, many, widest=60):
    """Tides of few minutes, with rising, falling and level water."""
    chance = random.Random(seed)
    found = []
    for _ in range(many):
        minute = chance.choice((0, 0, 3, 50))
        tide = []
        for _ in range(chance.randint(2, 5)):
            tide.append((minute, chance.choice((-500, -20, 0, 7, 100, 100, 2000, chance.randint(-500, 2000)))))
            minute += chance.randint(1, widest)
        found.append(tuple(tide))
    return found


def some_sills(chance):
    afters = [0] + sorted(chance.sample(range(1, 30), chance.randint(0, 3)))
    return tuple((after, chance.choice((0, 10, 100, 500, 3000, chance.randint(0, 3000)))) for after in afters)


class LevelTest(Case):
    """[B2], [B3]: levels."""

    def test_example(self):
        self.same(level(EXAMPLE, 30), (25, 1))
        self.same(minutes_at_least(EXAMPLE, 300), ((180, 553),))

    def test_ends_of_the_parts(self):
        wanted = [0, 50, 150, 300, 450, 550, 600]
        self.assertEqual([level(EXAMPLE, 60 * k) for k in range(7)], [(height, 1) for height in wanted])

    def test_all_minutes(self):
        for tide in some_tides(1, 60):
            for minute in range(tide[0][0] - 2, tide[-1][0] + 3):
                wanted = told_level(tide, minute)
                if wanted is not None:
                    wanted = (wanted.numerator, wanted.denominator)
                self.same(level(tide, minute), wanted)

    def test_waters_themselves(self):
        for tide in some_tides(2, 30):
            for minute, height in tide:
                self.same(level(tide, minute), (height, 1))

    def test_first_and_last_minute(self):
        tide = ((5, 10), (100000, -10))
        self.same(level(tide, 5), (10, 1))
        self.same(level(tide, 100000), (-10, 1))
        for minute in (-1, 0, 4, 100001):
            self.assertIsNone(level(tide, minute))

    def test_parts_that_do_not_end_at_whole_minutes(self):
        self.same(level(((0, 0), (7, 12)), 1), (6, 7))
        self.same(level(((0, 0), (7, 12)), 2), (17, 7))
        self.same(level(((0, 12), (1, 0)), 1), (0, 1))


class MinutesTest(Case):
    """[B3]: the minutes at which the level is at least a height."""

    def test_all_minutes(self):
        for tide in some_tides(3, 120):
            span = range(tide[0][0], tide[-1][0] + 1)
            levels = {minute: told_level(tide, minute) for minute in span}
            heights = {height + k for _, height in tide for k in (-1, 0, 1)} | {50}
            for least in heights:
                wanted = told(minute for minute in span if levels[minute] >= least)
                self.same(minutes_at_least(tide, least), wanted)

    def test_level_water(self):
        tide = ((3, 7), (9, 7), (20, 7))
        self.same(minutes_at_least(tide, 7), ((3, 20),))
        self.same(minutes_at_least(tide, 8), ())

    def test_neighbouring_waters_are_one_stretch(self):
        self.same(minutes_at_least(((0, 5), (1, 5), (2, 5)), 5), ((0, 2),))
        self.same(minutes_at_least(((0, 5), (1, 4), (2, 5)), 5), ((0, 0), (2, 2)))

    def test_far_heights(self):
        self.same(minutes_at_least(EXAMPLE, -10000), ((0, 720),))
        self.same(minutes_at_least(EXAMPLE, 10000), ())
        self.same(minutes_at_least(EXAMPLE, 600), ((360, 360),))
        self.same(minutes_at_least(EXAMPLE, 601), ())


class PassageTest(Case):
    """[B4]: sills and passable starts."""

    def test_starts_and_draughts(self):
        chance = random.Random(4)
        for tide in some_tides(5, 80, 25):
            sills = some_sills(chance)
            around = range(tide[0][0] - 3, tide[-1][0] + 4)
            deepest = {start: told_deepest(tide, sills, start) for start in around}
            known = sorted({deep for deep in deepest.values() if deep is not None and deep >= 0})
            for start in around:
                deep = deepest[start]
                self.same(deepest_draught(tide, sills, start), None if deep is None or deep < 0 else deep)
            for draught in {0, 5000, *known[:3], *known[-3:], *[deep + 1 for deep in known[-3:]]}:
                wanted = [start for start in around if deepest[start] is not None and deepest[start] >= draught]
                self.same(passable_starts(tide, sills, draught), told(wanted))
            self.compare_windows(chance, tide, sills, deepest)

    def compare_windows(self, chance, tide, sills, deepest):
        for _ in range(6):
            start = chance.randint(tide[0][0] - 3, tide[-1][0])
            stop = chance.choice((start, tide[-1][0], start + chance.randint(0, 20)))
            known = [(deepest[at], -at) for at in range(start, stop + 1)
                     if deepest.get(at) is not None and deepest[at] >= 0]
            wanted = (max(known)[0], -max(known)[1]) if known else None
            self.same(deepest_draught_in(tide, sills, start, stop), wanted)

    def test_draught_zero(self):
        tide = ((0, -500), (60, -100), (120, -500))
        self.same(passable_starts(tide, ((0, 100),), 0), ((60, 60),))
        self.same(deepest_draught(tide, ((0, 100),), 60), 0)
        self.assertIsNone(deepest_draught(tide, ((0, 100),), 59))
        self.same(deepest_draught_in(tide, ((0, 100),), 0, 120), (0, 60))
        self.same(passable_starts(tide, ((0, 99),), 0), ())
        self.assertIsNone(deepest_draught(tide, ((0, 99),), 60))
        self.assertIsNone(deepest_draught_in(tide, ((0, 99),), 0, 120))

    def test_greatest_draught(self):
        tide = ((0, 2000), (100, 2000))
        self.same(deepest_draught(tide, ((0, 3000), (600, 3000)), 0), None)
        self.same(deepest_draught(tide, ((0, 3000), (100, 3000)), 0), 5000)
        self.same(deepest_draught_in(tide, ((0, 3000), (90, 3000)), 2, 100), (5000, 2))
        self.same(passable_starts(tide, ((0, 3000), (90, 3000)), 5000), ((0, 10),))

    def test_first_and_last_minute(self):
        tide = ((0, 500), (100000, 500))
        sills = ((0, 100), (600, 200))
        self.same(passable_starts(tide, sills, 600), ((0, 99400),))
        self.same(passable_starts(tide, sills, 601), ())
        self.same(deepest_draught(tide, sills, 99400), 600)
        self.assertIsNone(deepest_draught(tide, sills, 99401))
        self.assertIsNone(deepest_draught(tide, sills, -1))
        self.same(deepest_draught_in(tide, sills, 99400, 200000), (600, 99400))
        self.assertIsNone(deepest_draught_in(tide, sills, 99401, 200000))

    def test_no_start_in_an_empty_window(self):
        self.assertIsNone(deepest_draught_in(((0, 0), (9, 9)), ((0, 5),), 5, 4))

    def test_first_of_several_starts(self):
        tide = ((0, 0), (60, 600), (120, 0), (180, 600), (240, 0), (300, 601))
        self.same(deepest_draught_in(tide, ((0, 100),), 0, 240), (700, 60))
        self.same(deepest_draught_in(tide, ((0, 100),), 61, 240), (700, 180))
        self.same(deepest_draught_in(tide, ((0, 100),), 0, 300), (701, 300))
        flat = ((0, 600), (60, 600), (120, 0), (180, 600))
        self.same(deepest_draught_in(flat, ((0, 100),), 7, 240), (700, 7))

    def test_levels_are_not_rounded_up(self):
        tide = ((0, 0), (7, -12))
        self.same(deepest_draught(tide, ((0, 10),), 1), 9)
        self.same(passable_starts(tide, ((0, 10),), 9), ((0, 1),))


def tide_calls():
    sills = ((0, 100),)
    return [lambda tide: level(tide, 0), lambda tide: minutes_at_least(tide, 0),
            lambda tide: passable_starts(tide, sills, 0), lambda tide: deepest_draught(tide, sills, 0),
            lambda tide: deepest_draught_in(tide, sills, 0, 9)]


def sill_calls(tide):
    return [lambda sills: passable_starts(tide, sills, 0), lambda sills: deepest_draught(tide, sills, 0),
            lambda sills: deepest_draught_in(tide, sills, 0, 9)]


BAD_TIDES = (([], None), ([(0, 0)], None), ([(-1, 0)], None), ([(k, 0) for k in range(61)], None),
             ([(-1, 0), (5, 0)], 0), ([(0, 0), (0, 5)], 1), ([(5, 0), (4, 5)], 1), ([(0, 0), (100001, 0)], 1),
             ([(0, -501), (1, 0)], 0), ([(0, 0), (1, 2001)], 1), ([(0, 0), (1, 0), (2, -501), (2, 0)], 2),
             ([(100001, 0), (100002, 3000)], 0))
BAD_SILLS = (([], None), ([(k, 5) for k in range(13)], None), ([(9, -1)] * 13, None), ([(1, 5)], 0), ([(-1, 5)], 0),
             ([(0, -1)], 0), ([(0, 3001)], 0), ([(0, 5), (0, 5)], 1), ([(0, 5), (601, 5)], 1),
             ([(0, 5), (9, 5), (8, 5)], 2), ([(0, 5), (9, 3001), (8, 5)], 1), ([(1, 5), (0, 5)], 0))


class WrongTideTest(Case):
    """Tides and sills that are not as they should be."""

    def test_wrong_tides(self):
        for tide, number in BAD_TIDES:
            for call in tide_calls():
                self.refused(BadTide, call, tide, told={"number": number})

    def test_wrong_sills(self):
        for sills, number in BAD_SILLS:
            for call in sill_calls(EXAMPLE):
                self.refused(BadSills, call, sills, told={"number": number})

    def test_tide_is_looked_at_first(self):
        for call in sill_calls([(0, 0)]):
            self.refused(BadTide, call, [], told={"number": None})

    def test_as_many_as_may_be(self):
        tide = tuple((k, k) for k in range(60))
        self.same(level(tide, 59), (59, 1))
        self.same(level(((0, -500), (1, 2000)), 0), (-500, 1))
        sills = tuple((50 * k, 3000) for k in range(12))
        self.same(deepest_draught(((0, 0), (600, 0)), sills, 50), 3000)
        self.same(deepest_draught(((0, 0), (600, 0)), ((0, 0), (600, 3000)), 0), 0)
