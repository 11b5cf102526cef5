"""[E1] to [E7] and quaybest.stability."""

import itertools
import random
from fractions import Fraction

from quaybest.stability import (Hull, displacement, draught_at, heel, least_ballast, loading_order,
                                metacentric_height, totals, trim, violations)
from support import Case

CURVE = [(2, 100, 14), (4, 200, 12), (6, 320, 12)]
TANKS = [(20, 10, 0, 2, 30), (20, -10, 0, 2, 30)]


def example_hull(**more):
    limits = dict({"height": 1, "heel": 100, "trim": 5}, **more)
    return Hull((100, 0, 0, 10), CURVE, TANKS, **limits)


def pair(value):
    return None if value is None else (value.numerator, value.denominator)


def told_column(curve, known, asked, at):
    for low, high in zip(curve, curve[1:]):
        if low[known] <= at <= high[known]:
            return low[asked] + Fraction(at - low[known], high[known] - low[known]) * (high[asked] - low[asked])
    return None


class Model:
    """A ship by the words of [E3], [E4] and [E5]."""

    def __init__(self, hull, loads, fills):
        rows = [hull.lightship, *loads] + [(fill, *tank[1:4]) for tank, fill in zip(hull.tanks, fills)]
        self.hull = hull
        self.weight = sum(row[0] for row in rows)
        self.moments = [sum(row[0] * row[axis] for row in rows) for axis in (1, 2, 3)]
        self.slacks = sum(tank[4] for tank, fill in zip(hull.tanks, fills) if fill != 0 and fill != tank[0])

    def height(self):
        km = told_column(self.hull.curve, 1, 2, self.weight)
        return None if km is None else km - Fraction(self.moments[2] + self.slacks, self.weight)

    def heel(self):
        height = self.height()
        if height is None or height <= 0:
            return None
        return Fraction(self.moments[1]) / (self.weight * height)

    def trim(self):
        return Fraction(self.moments[0], self.weight)

    def words(self):
        if self.height() is None:
            return ("curve",)
        words = ["height"] * (self.height() < self.hull.height)
        words += ["heel"] * (self.heel() is not None and abs(self.heel()) > Fraction(self.hull.heel, 1000))
        return tuple(words + ["trim"] * (abs(self.trim()) > self.hull.trim))


def some_hull(chance, most=3):
    rows = [(chance.randint(-3, 3), chance.randint(20, 120), chance.randint(5, 20))]
    for _ in range(chance.randint(1, 4)):
        rows.append((rows[-1][0] + chance.randint(1, 4), rows[-1][1] + chance.randint(1, 90), chance.randint(5, 20)))
    tanks = [(chance.randint(1, 30), chance.randint(-20, 20), chance.randint(-9, 9), chance.randint(0, 6),
              chance.randint(0, 60)) for _ in range(chance.randint(0, most))]
    lightship = (chance.randint(10, 150), chance.randint(-5, 5), chance.randint(-1, 1), chance.randint(3, 12))
    return Hull(lightship, rows, tanks, height=chance.randint(1, 3), heel=chance.choice((0, 50, 200)),
                trim=chance.choice((0, 2, 8)))


def some_loads(chance, most=4):
    return [(chance.randint(1, 40), chance.randint(-20, 20), chance.randint(-6, 6), chance.randint(0, 20))
            for _ in range(chance.randint(0, most))]


class TotalsTest(Case):
    """[E1]: loads and moments."""

    def test_example(self):
        self.same(totals([(3, 2, -1, 5), (400, -30000, 30000, 10000)]), (403, -11999994, 11999997, 4000015))

    def test_no_loads(self):
        self.same(totals([]), (0, 0, 0, 0))

    def test_random_loads(self):
        chance = random.Random(1)
        for _ in range(100):
            loads = some_loads(chance)
            moments = [sum(load[0] * load[axis] for load in loads) for axis in (1, 2, 3)]
            self.same(totals(loads), (sum(load[0] for load in loads), *moments))


class CurveTest(Case):
    """[E2]: the curve."""

    def test_rows(self):
        for draught, weight, _ in CURVE:
            self.same(displacement(CURVE, draught), (weight, 1))
            self.same(draught_at(CURVE, weight), (draught, 1))

    def test_between_rows(self):
        self.same(displacement(CURVE, 3), (150, 1))
        self.same(displacement(CURVE, 5), (260, 1))
        self.same(draught_at(CURVE, 101), (101, 50))
        self.same(draught_at(CURVE, 230), (9, 2))
        self.same(displacement([(0, 10, 1), (3, 20, 1)], 1), (40, 3))

    def test_random_curves(self):
        chance = random.Random(2)
        for _ in range(100):
            curve = some_hull(chance).curve
            for draught in range(curve[0][0], curve[-1][0] + 1):
                self.same(displacement(curve, draught), pair(Fraction(told_column(curve, 0, 1, draught))))
            for weight in range(curve[0][1], curve[-1][1] + 1):
                self.same(draught_at(curve, weight), pair(Fraction(told_column(curve, 1, 0, weight))))


class HullTest(Case):
    """[E3]: what a hull has."""

    def test_attributes(self):
        hull = Hull([100, 0, 0, 10], [list(row) for row in CURVE], [list(row) for row in TANKS], height=1, heel=2, trim=3)
        self.same(hull.lightship, (100, 0, 0, 10))
        self.same(hull.curve, tuple(CURVE))
        self.same(hull.tanks, tuple(TANKS))
        self.same((hull.height, hull.heel, hull.trim), (1, 2, 3))

    def test_later_changes_of_arguments(self):
        curve = [list(row) for row in CURVE]
        hull = Hull([100, 0, 0, 10], curve, [], height=1, heel=2, trim=3)
        curve[0][1] = 7
        self.same(hull.curve, tuple(CURVE))
        self.same(hull.tanks, ())


class ShipTest(Case):
    """[E4], [E5]: height, heel, trim and violations."""

    def test_random_ships(self):
        chance = random.Random(3)
        seen = {}
        for _ in range(3000):
            hull, loads = some_hull(chance), some_loads(chance)
            fills = [chance.choice((0, tank[0], chance.randint(0, tank[0]))) for tank in hull.tanks]
            model = Model(hull, loads, fills)
            self.same(metacentric_height(hull, loads, fills), pair(model.height()))
            self.same(heel(hull, loads, fills), pair(model.heel()))
            self.same(trim(hull, loads, fills), pair(model.trim()))
            self.same(violations(hull, loads, fills), model.words())
            seen[model.words()] = True
        self.assertGreater(len(seen), 7)

    def test_first_and_last_row_and_off_the_curve(self):
        hull = example_hull()
        self.same(metacentric_height(hull, [], (0, 0)), (4, 1))
        self.same(violations(hull, [], (0, 0)), ())
        self.same(violations(hull, [(220, 0, 0, 10)], (0, 0)), ())
        self.same(metacentric_height(hull, [(220, 0, 0, 10)], (0, 0)), (2, 1))
        self.same(violations(hull, [(221, 0, 0, 10)], (0, 0)), ("curve",))
        self.same(metacentric_height(hull, [(221, 0, 0, 10)], (0, 0)), None)
        self.same(heel(hull, [(221, 0, 0, 10)], (0, 0)), None)
        self.same(trim(hull, [(300, 1000, 0, 10)], (0, 0)), (750, 1))
        light = Hull((99, 0, 50, 50), CURVE, TANKS, height=1, heel=0, trim=0)
        self.same(violations(light, [], (0, 0)), ("curve",))
        self.same(violations(light, [(1, 0, -4950, -4950)], (0, 0)), ())

    def test_slack_tanks(self):
        hull = example_hull()
        self.same(metacentric_height(hull, [], (20, 0)), pair(Fraction(14 * 100 - 2 * 20, 100) - Fraction(1040, 120)))
        self.same(metacentric_height(hull, [], (19, 0)),
                  pair(Fraction(14 * 100 - 2 * 19, 100) - Fraction(1038 + 30, 119)))
        self.same(metacentric_height(hull, [], (1, 19)),
                  pair(Fraction(14 * 100 - 2 * 20, 100) - Fraction(1040 + 60, 120)))

    def test_limits_that_are_met_exactly(self):
        load = (100, 10, 0, 10)
        self.same(trim(example_hull(), [load], (0, 0)), (5, 1))
        self.same(violations(example_hull(), [load], (0, 0)), ())
        self.same(violations(example_hull(trim=4), [load], (0, 0)), ("trim",))
        self.same(violations(example_hull(trim=4), [(100, -10, 0, 10)], (0, 0)), ("trim",))
        self.same(violations(example_hull(height=2), [load], (0, 0)), ())
        self.same(violations(example_hull(height=3), [load], (0, 0)), ("height",))
        aside = (100, 0, 1, 10)
        self.same(heel(example_hull(), [aside], (0, 0)), (1, 4))
        self.same(violations(example_hull(heel=250), [aside], (0, 0)), ())
        self.same(violations(example_hull(heel=249), [aside], (0, 0)), ("heel",))
        self.same(violations(example_hull(heel=249), [(100, 0, -1, 10)], (0, 0)), ("heel",))
        self.same(violations(example_hull(heel=1000), [(100, 0, 4, 10)], (0, 0)), ())
        self.same(violations(example_hull(heel=999), [(100, 0, 4, 10)], (0, 0)), ("heel",))

    def test_no_heel_without_height(self):
        hull = example_hull(trim=1)
        level = (100, 10, 9, 14)
        self.same(metacentric_height(hull, [level], (0, 0)), (0, 1))
        self.same(heel(hull, [level], (0, 0)), None)
        self.same(violations(hull, [level], (0, 0)), ("height", "trim"))
        self.same(heel(hull, [(100, 10, 9, 15)], (0, 0)), None)
        self.same(violations(hull, [(100, 10, 9, 15)], (0, 0)), ("height", "trim"))

    def test_order_of_the_words(self):
        self.same(violations(example_hull(height=9, trim=1), [(100, 10, 9, 10)], (0, 0)), ("height", "heel", "trim"))

    def test_example_of_the_document(self):
        hull = example_hull()
        self.same(violations(hull, [(50, 0, 0, 10)], (0, 0)), ())
        self.same(violations(hull, [(50, 0, 0, 10), (50, 16, 0, 10)], (0, 0)), ())
        self.same(draught_at(hull.curve, 200), (4, 1))


class BallastTest(Case):
    """[E6]: the least ballast."""

    def test_all_ballasts(self):
        chance = random.Random(4)
        found = {True: 0, False: 0}
        for _ in range(400):
            hull, loads = some_hull(chance, 4), some_loads(chance, 2)
            rows = itertools.product(*[(0, tank[0]) for tank in hull.tanks])
            stable = [(sum(row), row) for row in rows if not Model(hull, loads, row).words()]
            found[bool(stable)] += 1
            self.same(least_ballast(hull, loads), min(stable)[1] if stable else None)
        self.assertGreater(min(found.values()), 20)

    def test_first_of_several(self):
        hull = Hull((90, 0, 0, 10), CURVE, [(10, 0, 0, 5, 9)] * 3, height=1, heel=0, trim=0)
        self.same(least_ballast(hull, []), (0, 0, 10))

    def test_less_water_in_more_tanks(self):
        hull = Hull((90, 0, 0, 10), CURVE, [(5, 0, 0, 5, 9), (5, 0, 0, 5, 9), (11, 0, 0, 5, 9)], height=1, heel=0, trim=0)
        self.same(least_ballast(hull, []), (5, 5, 0))

    def test_eight_tanks_and_none(self):
        hull = Hull((92, 0, 0, 10), CURVE, [(1, 0, 0, 5, 9)] * 8, height=1, heel=0, trim=0)
        self.same(least_ballast(hull, []), (1,) * 8)
        self.same(least_ballast(Hull((100, 0, 0, 10), CURVE, [], height=1, heel=0, trim=0), []), ())
        self.same(least_ballast(Hull((99, 0, 0, 10), CURVE, [], height=1, heel=0, trim=0), []), None)


class LoadingTest(Case):
    """[E7]: loading orders."""

    def told_order(self, hull, loads, fills):
        for order in itertools.permutations(range(len(loads))):
            aboard = [[loads[k] for k in order[:many]] for many in range(len(order) + 1)]
            if not any(Model(hull, row, fills).words() for row in aboard):
                return order
        return None

    def test_all_orders(self):
        chance = random.Random(5)
        found = {}
        for _ in range(800):
            hull = chance.choice((some_hull(chance), example_hull(trim=chance.randint(1, 3), heel=300)))
            loads = some_loads(chance, 5)
            fills = [chance.choice((0, tank[0])) for tank in hull.tanks]
            wanted = self.told_order(hull, loads, fills)
            found[wanted] = True
            self.same(loading_order(hull, loads, fills), wanted)
        self.assertGreater(len(found), 12)

    def test_eight_loads(self):
        hull = example_hull(trim=1)
        loads = [(10, 10 * side, 0, 10) for side in (1, 1, 1, 1, -1, -1, -1, -1)]
        self.same(loading_order(hull, loads, (0, 0)), (0, 4, 1, 5, 2, 6, 3, 7))

    def test_no_loads(self):
        self.same(loading_order(example_hull(), [], (0, 0)), ())
        self.same(loading_order(example_hull(height=5), [], (0, 0)), None)

    def test_ship_that_is_not_stable_without_a_load(self):
        hull = Hull((90, 0, 0, 10), CURVE, [(20, 0, 0, 5, 0)], height=1, heel=100, trim=5)
        self.same(loading_order(hull, [(20, 0, 0, 10)], (0,)), None)
        self.same(loading_order(hull, [(20, 0, 0, 10)], (20,)), (0,))
        self.same(loading_order(hull, [(20, 0, 0, 10), (500, 0, 0, 10)], (20,)), None)
