"""[B1] and quaybest.intervals."""

import itertools
import random

from quaybest.intervals import BadIntervals, TooLate, difference, dilated, eroded, intersection, union
from support import Case

LAST = 100000


def told(minutes):
    """A set of minutes, told as the one tuple of pairs."""
    rows = []
    for minute in sorted(minutes):
        if rows and rows[-1][1] == minute - 1:
            rows[-1] = (rows[-1][0], minute)
        else:
            rows.append((minute, minute))
    return tuple(rows)


def contained(rows):
    return {minute for start, stop in rows for minute in range(start, stop + 1)}


def some_sets():
    """All sets of minutes 0 to 5, and some random ones, also at the end of all minutes."""
    small = [told(row) for many in range(7) for row in itertools.combinations(range(6), many)]
    chance = random.Random(1)
    large = [told(chance.sample(range(shift, shift + 40), chance.randint(0, 40)))
             for shift in (0, LAST - 39) for _ in range(30)]
    return small, large


WRONG = (([(5, 4)], 0), ([(0, 1), (2, 3)], 1), ([(0, 1), (1, 3)], 1), ([(-1, 1)], 0), ([(0, 0), (2, LAST + 1)], 1),
         ([(0, 1), (3, 4), (9, 8), (-1, -2)], 2), ([(5, 6), (0, 1)], 1), ([(LAST + 1, LAST + 1)], 0),
         ([(0, 1), (0, 1)], 1))


class IntervalsTest(Case):
    """[B1]: sets of minutes."""

    def test_two_sets(self):
        small, large = some_sets()
        for rows in (small, large):
            for first in rows:
                for second in rows:
                    one, other = contained(first), contained(second)
                    self.same(intersection(first, second), told(one & other))
                    self.same(union(first, second), told(one | other))
                    self.same(difference(first, second), told(one - other))

    def test_intervals_that_touch(self):
        self.same(union([(0, 3)], [(4, 6)]), ((0, 6),))
        self.same(union([(0, 3)], [(5, 6)]), ((0, 3), (5, 6)))
        self.same(union([(0, 1), (5, 6)], [(2, 4)]), ((0, 6),))
        self.same(difference([(0, 9)], [(4, 5)]), ((0, 3), (6, 9)))
        self.same(intersection([(0, 3)], [(3, 6)]), ((3, 3),))

    def test_first_and_last_minute(self):
        self.same(difference([(0, LAST)], [(0, 0), (LAST, LAST)]), ((1, LAST - 1),))
        self.same(difference([(0, LAST)], []), ((0, LAST),))
        self.same(union([(0, 0)], [(LAST, LAST)]), ((0, 0), (LAST, LAST)))
        self.same(intersection([(0, LAST)], [(0, 0), (LAST, LAST)]), ((0, 0), (LAST, LAST)))
        self.same(eroded([(0, LAST)], LAST + 1), ((0, 0),))
        self.same(eroded([(0, LAST)], LAST + 2), ())
        self.same(dilated([(0, 0)], LAST + 1), ((0, LAST),))

    def test_eroded(self):
        small, large = some_sets()
        for rows in small + large:
            held = contained(rows)
            for length in (1, 2, 3, 7):
                wanted = {m for m in held if all(m + k in held for k in range(length))}
                self.same(eroded(rows, length), told(wanted))

    def test_dilated(self):
        small, large = some_sets()
        for rows in small + large:
            held = contained(rows)
            for length in (1, 2, 3, 7):
                wanted = {m + k for m in held for k in range(length)}
                if wanted and max(wanted) > LAST:
                    self.refused(TooLate, dilated, rows, length)
                else:
                    self.same(dilated(rows, length), told(wanted))

    def test_dilated_to_the_last_minute_and_behind(self):
        self.same(dilated([(5, LAST - 3)], 4), ((5, LAST),))
        self.refused(TooLate, dilated, [(5, LAST - 3)], 5)
        self.refused(TooLate, dilated, [(0, 0)], LAST + 2)
        self.same(dilated([], LAST * 2), ())

    def test_wrong_pairs(self):
        good = ((0, 1), (3, 3))
        for rows, number in WRONG:
            for call in (intersection, union, difference):
                self.refused(BadIntervals, call, rows, good, told={"number": number})
                self.refused(BadIntervals, call, good, rows, told={"number": number})
            for call in (eroded, dilated):
                self.refused(BadIntervals, call, rows, 2, told={"number": number})

    def test_first_argument_is_looked_at_first(self):
        for call in (intersection, union, difference):
            self.refused(BadIntervals, call, [(0, 1), (2, 3)], [(5, 4)], told={"number": 1})
            self.refused(BadIntervals, call, [(5, 4)], [(0, 0)] * 2001, told={"number": 0})

    def test_wrong_pairs_are_told_before_minutes_that_are_too_late(self):
        self.refused(BadIntervals, dilated, [(0, 1), (2, LAST)], 5, told={"number": 1})

    def test_two_thousand_pairs_and_more(self):
        rows = [(2 * k, 2 * k) for k in range(2000)]
        others = [(2 * k + 1, 2 * k + 1) for k in range(2000)]
        self.same(union(rows, others), ((0, 3999),))
        self.same(intersection(rows, others), ())
        self.same(difference(rows, others), tuple(rows))
        self.same(eroded(rows, 1), tuple(rows))
        self.same(dilated(rows, 2), ((0, 3999),))
        more = rows + [(4000, 4000)]
        for call in (intersection, union, difference):
            self.refused(BadIntervals, call, more, [], told={"number": None})
            self.refused(BadIntervals, call, [], more, told={"number": None})
        self.refused(BadIntervals, eroded, more, 1, told={"number": None})
        self.refused(BadIntervals, dilated, more, 1, told={"number": None})
        self.refused(BadIntervals, eroded, [(5, 4)] * 2001, 1, told={"number": None})

    def test_what_is_returned_may_have_more_pairs(self):
        rows = [(4 * k, 4 * k) for k in range(2000)]
        others = [(4 * k + 2, 4 * k + 2) for k in range(2000)]
        self.assertEqual(len(union(rows, others)), 4000)
        self.assertEqual(len(difference([(0, LAST)], rows)), 2000)
