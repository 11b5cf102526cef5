"""[N6], [N7] and quaybest.pieces."""

import itertools
import random
from fractions import Fraction

from quaybest.formulas import read_formula
from quaybest.pieces import (cheapest, combined, first_difference, is_at_most, is_concave, is_convex, is_equivalent, pieces,
                             separate)
from support import Case, listed
from trees import pair, some_tree, told_duty

# Parcels small enough to try all of them.
GRID = [(value, weight) for weight in range(7) for value in range(13)]
GREATER = read_formula("greater of (8 percent, 12 per kg)")


def small_tree(chance, deep=2):
    """A tree whose pieces begin at ratios that the parcels of the grid have, for the most part."""
    return some_tree(chance, deep, (0, 3), (0, 3))


def in_hundreds(tree):
    """The tree with 100 percent in place of each percent."""
    word, *rest = tree
    if word == "percent":
        return ("percent", 100 * rest[0])
    if word == "kilo":
        return tree
    if word == "sum":
        return ("sum", tuple(in_hundreds(part) for part in rest[0]))
    return (word, *[in_hundreds(part) for part in rest])


def told_first_difference(first, second, most=150):
    """Of the parcels up to a value and a weight, the first one, by [N7]."""
    return next(((value, weight) for weight in range(12) for value in range(most)
                 if told_duty(first, value, weight) != told_duty(second, value, weight)), None)


def bump(many, halves, start):
    """Two formulas of which the first one gives more, but only where the ratio, times 4 and so many and 2 to the power of
    the halves, is between a number and the next one; elsewhere both give the same."""
    value = ("sum", (("percent", 400),) * many) if many > 1 else ("percent", 400)
    bounds = []
    for number in (start, start + 1):
        tree = ("kilo", number)
        for _ in range(halves):
            tree = ("half", tree)
        bounds.append(tree)
    # Between the bounds the value and the upper one are more than twice the value and more than both bounds.
    first = ("sum", tuple(("greater", value, bound) for bound in bounds))
    return first, ("greater", ("sum", (("percent", 400),) * (2 * many)), ("sum", tuple(bounds)))


class PiecesTest(Case):
    """[N6]: pieces."""

    def test_example(self):
        wanted = (((0, 1), (0, 1), (12, 1)), ((150, 1), (2, 25), (0, 1)))
        self.same(pieces(GREATER), wanted)
        self.same(pieces(listed(GREATER)), wanted)

    def test_each_kind(self):
        rows = [("8 percent", (((0, 1), (2, 25), (0, 1)),)), ("7 per kg", (((0, 1), (0, 1), (7, 1)),)),
                ("0 percent", (((0, 1), (0, 1), (0, 1)),)), ("8 percent + 7 per kg", (((0, 1), (2, 25), (7, 1)),)),
                ("half of (3 percent + 5 per kg)", (((0, 1), (3, 200), (5, 2)),)),
                ("less of (8 percent, 12 per kg)", (((0, 1), (2, 25), (0, 1)), ((150, 1), (0, 1), (12, 1)))),
                ("greater of (8 percent, 0 per kg)", (((0, 1), (2, 25), (0, 1)),)),
                ("less of (8 percent, 0 per kg)", (((0, 1), (0, 1), (0, 1)),)),
                ("greater of (8 percent, 9 percent)", (((0, 1), (9, 100), (0, 1)),)),
                ("greater of (2 per kg, 1 per kg + 0 percent)", (((0, 1), (0, 1), (2, 1)),)),
                ("greater of (100 percent, 1 per kg) + less of (100 percent, 1 per kg)", (((0, 1), (1, 1), (1, 1)),)),
                ("less of (greater of (100 percent, 1 per kg), 3 per kg)",
                 (((0, 1), (0, 1), (1, 1)), ((1, 1), (1, 1), (0, 1)), ((3, 1), (0, 1), (3, 1))))]
        for text, wanted in rows:
            self.same(pieces(read_formula(text)), wanted)

    def test_lines_that_meet_at_a_start(self):
        # The lines of both meet at the ratio 1, where each of them begins a piece.
        text = "greater of (greater of (100 percent, 1 per kg), less of (200 percent, 1 per kg + 100 percent))"
        self.same(pieces(read_formula(text)), (((0, 1), (0, 1), (1, 1)), ((1, 2), (2, 1), (0, 1)), ((1, 1), (1, 1), (1, 1))))
        text = "less of (greater of (100 percent, 1 per kg), greater of (300 percent, 1 per kg))"
        self.same(pieces(read_formula(text)), (((0, 1), (0, 1), (1, 1)), ((1, 1), (1, 1), (0, 1))))

    def test_random_trees(self):
        chance = random.Random(1)
        many = {}
        for k in range(500):
            tree = some_tree(chance, 4) if k % 2 else in_hundreds(small_tree(chance, 3))
            rows = pieces(tree)
            many[len(rows)] = True
            starts = [Fraction(*row[0]) for row in rows]
            self.assertEqual(starts, sorted(set(starts)))
            self.assertEqual(starts[0], 0)
            self.assertTrue(all(row[1:] != after[1:] for row, after in zip(rows, rows[1:])))
            ratios = [*starts, *[(a + b) / 2 for a, b in zip(starts, starts[1:])], starts[-1] + 1, starts[-1] * 9 + 7]
            for ratio in ratios:
                self.check_duty(tree, rows, ratio.numerator, ratio.denominator)
            for value in (0, 1, 5000):
                self.check_duty(tree, rows, value, 0)
            self.same(rows, tuple(tuple(pair(Fraction(*number)) for number in row) for row in rows))
        self.assertGreater(len(many), 4)

    def check_duty(self, tree, rows, value, weight):
        """The piece for a ratio gives the duty, and so does the one that ends there."""
        starts = [Fraction(*row[0]) for row in rows]
        if weight == 0:
            fitting = [len(rows) - 1]
        else:
            last = max(k for k, start in enumerate(starts) if start <= Fraction(value, weight))
            fitting = [last, last - 1] if last and starts[last] == Fraction(value, weight) else [last]
        for k in fitting:
            found = Fraction(*rows[k][1]) * value + Fraction(*rows[k][2]) * weight
            self.assertEqual(found, told_duty(tree, value, weight))

    def test_48_leaves_of_a_depth_of_7(self):
        tree = ("sum", tuple(("greater", ("percent", 10 + k), ("kilo", 3 * k + 1)) for k in range(16)))
        for k in range(6):
            tree = ("half", ("sum", (tree, ("less", ("percent", 9 * k), ("kilo", 77)))))
        rows = pieces(tree)
        self.assertGreater(len(rows), 10)
        for ratio in range(0, 2000, 7):
            self.check_duty(tree, rows, ratio, 3)


class CompareTest(Case):
    """[N7]: equivalent formulas, and those that give at most as much."""

    def test_written_otherwise(self):
        rows = [("8 percent", "4 percent + 4 percent"), ("half of (8 percent)", "4 percent"),
                ("greater of (8 percent, 12 per kg)", "greater of (12 per kg, 8 percent)"),
                ("greater of (8 percent, 12 per kg) + less of (12 per kg, 8 percent)", "12 per kg + 8 percent"),
                ("less of (8 percent, greater of (8 percent, 3 per kg))", "8 percent")]
        for first, second in rows:
            first, second = read_formula(first), read_formula(second)
            self.same(is_equivalent(first, second), True)
            self.same(is_equivalent(listed(second), first), True)
            self.same(first_difference(first, second), None)
            self.same((is_at_most(first, second), is_at_most(second, first)), (True, True))

    def test_small_cases(self):
        chance = random.Random(2)
        seen = {}
        for _ in range(700):
            first, second = (in_hundreds(small_tree(chance)) for _ in range(2))
            wanted = told_first_difference(first, second)
            self.same(first_difference(first, second), wanted)
            self.same(is_equivalent(first, second), wanted is None)
            at_most = all(told_duty(first, *parcel) <= told_duty(second, *parcel) for parcel in GRID)
            self.same(is_at_most(first, second), at_most)
            seen[wanted is None, at_most] = True
        self.assertEqual(len(seen), 3)

    def test_more_in_some_way_only(self):
        for first, second, wanted in (("8 percent", "9 percent", True), ("9 percent", "8 percent", False),
                                      ("8 percent", "8 percent + 1 per kg", True), ("1 per kg", "400 percent", False),
                                      ("400 percent", "9999 per kg", False), ("less of (1 percent, 1 per kg)", "1 per kg", True),
                                      ("1 per kg", "less of (1 percent, 1 per kg)", False)):
            self.same(is_at_most(read_formula(first), read_formula(second)), wanted)

    def test_first_difference(self):
        rows = [("8 percent", "9 percent", (1, 0)), ("1 per kg", "2 per kg", (0, 1)), ("8 percent", "8 per kg", (1, 0)),
                ("8 percent + 1 per kg", "8 percent + 2 per kg", (0, 1)),
                # From the ratio 150 on the duties differ; at it they do not.
                ("12 per kg", "less of (12 per kg, greater of (8 percent, 13 per kg))", None),
                ("less of (8 percent, 12 per kg)", "less of (8 percent, 13 per kg)", (151, 1)),
                ("greater of (12 per kg, 8 percent)", "greater of (12 per kg, 9 percent)", (1, 0)),
                ("less of (400 percent, 1 per kg)", "less of (400 percent, 2 per kg)", (1, 1)),
                ("less of (400 percent, 0 per kg)", "less of (400 percent, 2 per kg)", (1, 1)),
                # They differ between the ratios 1 / 3 and 1 / 2 alone: 2 / 5.
                ("less of (300 percent, 1 per kg)", "less of (300 percent, less of (1 per kg, 200 percent))", (1, 3))]
        for first, second, wanted in rows:
            self.same(first_difference(read_formula(first), read_formula(second)), wanted)

    def test_short_stretches_of_ratios(self):
        chance = random.Random(3)
        weights = {}
        for _ in range(300):
            many, halves, start = chance.randint(1, 6), chance.randint(0, 3), chance.randint(0, 60)
            first, second = bump(many, halves, start)
            low, high = (Fraction(number, 4 * many * 2 ** halves) for number in (start, start + 1))
            wanted = next((int(low * weight) + 1, weight) for weight in itertools.count(1)
                          if int(low * weight) + 1 < high * weight)
            self.same(first_difference(first, second), wanted)
            self.same(first_difference(second, listed(first)), wanted)
            weights[wanted[1]] = True
            self.same(is_equivalent(first, second), False)
            self.same((is_at_most(first, second), is_at_most(second, first)), (False, True))
        self.assertGreater(len(weights), 20)


class ShapeTest(Case):
    """[N7]: convex and concave formulas."""

    def test_shapes(self):
        rows = [("8 percent + 3 per kg", True, True), ("greater of (8 percent, 12 per kg)", True, False),
                ("less of (8 percent, 12 per kg)", False, True), ("greater of (0 percent, 12 per kg)", True, True),
                ("less of (greater of (100 percent, 1 per kg), 3 per kg)", False, False)]
        for text, convex, concave in rows:
            tree = read_formula(text)
            self.same((is_convex(tree), is_concave(tree)), (convex, concave))
            self.same((is_convex(listed(tree)), is_concave(listed(tree))), (convex, concave))

    def test_small_cases(self):
        chance = random.Random(4)
        seen = {}
        for _ in range(250):
            tree = in_hundreds(small_tree(chance))
            duties = {parcel: told_duty(tree, *parcel) for parcel in itertools.product(range(25), range(13))}
            sums = [(duties[v + x, w + y], duties[v, w] + duties[x, y])
                    for (v, w), (x, y) in itertools.combinations(GRID[::2], 2)]
            wanted = all(one <= two for one, two in sums), all(one >= two for one, two in sums)
            seen[wanted] = True
            self.same((is_convex(tree), is_concave(tree)), wanted)
        self.assertEqual(len(seen), 4)


class ParcelsTest(Case):
    """Duties of several parcels, and of several formulas."""

    def test_separate_and_combined(self):
        parcels = [(100, 1), (300, 1), (0, 0)]
        for form in (tuple, list, listed):
            self.same(separate(GREATER, form(parcels)), (36, 1))
            self.same(combined(GREATER, form(parcels)), (32, 1))
        self.same((separate(GREATER, []), combined(GREATER, [])), ((0, 1), (0, 1)))
        self.same((separate(GREATER, [(0, 3), (9, 0)]), combined(GREATER, [(0, 3), (9, 0)])), ((918, 25), (36, 1)))

    def test_cheapest(self):
        trees = [read_formula(text) for text in ("8 percent", "12 per kg", "4 percent + 4 percent")]
        self.same(cheapest(trees, 100, 1), (0, (8, 1)))
        self.same(cheapest(trees, 200, 1), (1, (12, 1)))
        self.same(cheapest(trees, 150, 1), (0, (12, 1)))
        self.same(cheapest(listed(trees[1:]), 30, 3), (1, (12, 5)))
        self.same(cheapest(trees, 0, 0), (0, (0, 1)))
        self.same(cheapest(trees[1:2], 0, 2), (0, (24, 1)))

    def test_random_parcels(self):
        chance = random.Random(5)
        for _ in range(100):
            trees = [small_tree(chance) for _ in range(3)]
            parcels = [(chance.randint(0, 9), chance.randint(0, 3)) for _ in range(chance.randint(0, 4))]
            value, weight = sum(parcel[0] for parcel in parcels), sum(parcel[1] for parcel in parcels)
            duties = [told_duty(tree, value, weight) for tree in trees]
            self.same(separate(trees[0], parcels), pair(sum((told_duty(trees[0], *row) for row in parcels), Fraction(0))))
            self.same(combined(trees[0], parcels), pair(duties[0]))
            self.same(cheapest(trees, value, weight), (duties.index(min(duties)), pair(min(duties))))
