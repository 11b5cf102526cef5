"""[H1] to [H4] and quaybest.segregation."""

import itertools
import random

from quaybest.segregation import (allowed_positions, apart, critical_chain, largest_conflict_set, min_holds, pack,
                                  shortest_row, triangle_violation, violations)
from support import Case

TABLE = (((0, 1, 2), (1, 0, 3), (2, 3, 1)), (0, 2, 3, 7))
ALONE = (((0,),), (0, 0, 0, 0))


def some_table(chance, kinds):
    degrees = [[0] * kinds for _ in range(kinds)]
    for first in range(kinds):
        for second in range(first + 1):
            degrees[first][second] = degrees[second][first] = chance.randint(0, 3)
    return degrees, sorted(chance.randint(0, chance.choice((2, 9))) for _ in range(4))


def some_classes(chance, table, most):
    return [chance.randrange(len(table[0])) for _ in range(chance.randint(0, most))]


def told_apart(table, first, second):
    """By the words of [H1]."""
    distance = table[1][table[0][first][second]]
    return 1 if distance == 0 else distance


def told_too_close(table, first, second):
    return abs(first[1] - second[1]) < told_apart(table, first[0], second[0])


def told_pack(table, classes):
    """By the words of [H3], position by position."""
    found = []
    for number, kind in enumerate(classes):
        position = 0
        while any(position < found[other] + told_apart(table, classes[other], kind) for other in range(number)):
            position += 1
        found.append(position)
    return tuple(found)


def told_conflict(table, first, second, degree):
    return table[0][first][second] >= degree


class ApartTest(Case):
    """[H1], [H2]: what is too close."""

    def test_apart(self):
        self.same([[apart(TABLE, first, second) for second in range(3)] for first in range(3)],
                  [[1, 2, 3], [2, 1, 7], [3, 7, 2]])

    def test_distances_of_0(self):
        self.same(apart((((0, 3), (3, 2)), (0, 0, 0, 0)), 0, 1), 1)
        self.same(apart((((0, 3), (3, 2)), (0, 0, 0, 0)), 1, 1), 1)
        self.same(apart((((0, 3), (3, 2)), (0, 0, 1, 2)), 1, 1), 1)
        self.same(apart((((0, 3), (3, 2)), (4, 4, 5, 6)), 0, 0), 4)

    def test_violations(self):
        self.same(violations(TABLE, [(0, 0), (1, 2), (2, 9)]), ())
        self.same(violations(TABLE, [(0, 0), (1, 1), (2, 7)]), ((0, 1), (1, 2)))
        self.same(violations(TABLE, [(2, 7), (1, 1), (0, 0)]), ((0, 1), (1, 2)))
        self.same(violations(TABLE, [(2, 5), (2, 4)]), ((0, 1),))
        self.same(violations(TABLE, [(2, 6), (2, 4)]), ())
        self.same(violations(TABLE, [(0, 5), (0, 5)]), ((0, 1),))
        self.same(violations(TABLE, [(0, 5), (0, 4)]), ())
        self.same(violations(TABLE, []), ())
        self.same(violations(TABLE, [(2, 3)]), ())

    def test_random_rows(self):
        chance = random.Random(1)
        for _ in range(300):
            table = some_table(chance, 3)
            row = [(kind, chance.randint(0, 12)) for kind in some_classes(chance, table, 6)]
            self.same(violations(table, row), tuple(pair for pair in itertools.combinations(range(len(row)), 2)
                                                    if told_too_close(table, row[pair[0]], row[pair[1]])))


class PackTest(Case):
    """[H3]: packing."""

    def test_example(self):
        self.same(pack(TABLE, (0, 1, 2, 0)), (0, 2, 9, 12))

    def test_edges(self):
        self.same(pack(TABLE, []), ())
        self.same(pack(TABLE, [2]), (0,))
        self.same(pack(ALONE, [0] * 4), (0, 1, 2, 3))
        self.same(pack(TABLE, [2, 2, 2]), (0, 2, 4))

    def test_box_further_ahead_that_matters(self):
        self.same(pack(TABLE, [1, 0, 2]), (0, 2, 7))
        self.same(pack((((0, 0, 3), (0, 0, 0), (3, 0, 0)), (0, 0, 0, 9)), [0, 1, 1, 2]), (0, 1, 2, 9))

    def test_random_rows(self):
        chance = random.Random(2)
        for _ in range(300):
            table = some_table(chance, 4)
            classes = some_classes(chance, table, 9)
            self.same(pack(table, classes), told_pack(table, classes))
            self.same(violations(table, list(zip(classes, pack(table, classes)))), ())


class ChainTest(Case):
    """Critical predecessors."""

    def told_chain(self, table, classes, box):
        positions = told_pack(table, classes)
        if box == 0:
            return (0,)
        critical = [other for other in range(box)
                    if positions[box] - positions[other] == told_apart(table, classes[other], classes[box])]
        return (*self.told_chain(table, classes, critical[0]), box)

    def test_chains(self):
        self.same(critical_chain(TABLE, (0, 1, 2, 0), 0), (0,))
        self.same(critical_chain(TABLE, (0, 1, 2, 0), 3), (0, 1, 2, 3))
        self.same(critical_chain(TABLE, (1, 0, 2), 2), (0, 2))
        self.same(critical_chain(TABLE, [0, 2, 0], 1), (0, 1))

    def test_first_of_several_predecessors(self):
        table = (((0, 1, 2), (1, 0, 1), (2, 1, 0)), (0, 2, 4, 4))
        self.same(pack(table, (0, 1, 2)), (0, 2, 4))
        self.same(critical_chain(table, (0, 1, 2), 2), (0, 2))

    def test_random_chains(self):
        chance = random.Random(3)
        lengths = {}
        for _ in range(300):
            table = some_table(chance, 3)
            classes = some_classes(chance, table, 7) + [0]
            for box in range(len(classes)):
                wanted = self.told_chain(table, classes, box)
                lengths[len(wanted) < box + 1] = True
                self.same(critical_chain(table, classes, box), wanted)
        self.assertEqual(len(lengths), 2)


class ShortestRowTest(Case):
    """The first of the orders whose packing is shortest."""

    def told_shortest(self, table, classes):
        found = []
        for order in itertools.permutations(range(len(classes))):
            positions = told_pack(table, [classes[box] for box in order])
            found.append((positions[-1] + 1 if positions else 0, order, positions))
        return min(found)

    def test_rows(self):
        self.same(shortest_row(TABLE, []), (0, (), ()))
        self.same(shortest_row(TABLE, [1]), (1, (0,), (0,)))
        self.same(shortest_row(ALONE, [0, 0, 0]), (3, (0, 1, 2), (0, 1, 2)))
        self.same(shortest_row(TABLE, [1, 2, 0]), (8, (0, 2, 1), (0, 2, 7)))

    def test_last_box_that_stands_no_farther_than_others(self):
        table = (((3, 0), (0, 0)), (0, 0, 0, 9))
        self.same(shortest_row(table, [0, 0, 1]), (10, (0, 2, 1), (0, 1, 9)))

    def test_random_rows(self):
        chance = random.Random(4)
        for _ in range(150):
            table = some_table(chance, 3)
            classes = some_classes(chance, table, 5)
            self.same(shortest_row(table, classes), self.told_shortest(table, classes))

    def test_seven_boxes(self):
        classes = [0, 1, 2, 0, 1, 2, 0]
        self.same(shortest_row(TABLE, classes), self.told_shortest(TABLE, classes))


class TriangleTest(Case):
    """Classes that must be farther apart than by way of another one."""

    def told_triangle(self, table):
        kinds = range(len(table[0]))
        return next(((a, b, c) for a, b, c in itertools.product(kinds, repeat=3)
                     if told_apart(table, a, c) > told_apart(table, a, b) + told_apart(table, b, c)), None)

    def test_triangles(self):
        self.same(triangle_violation(TABLE), (1, 0, 2))
        self.same(triangle_violation(ALONE), None)
        self.same(triangle_violation((((0, 1, 2), (1, 0, 1), (2, 1, 1)), (0, 2, 4, 7))), None)
        self.same(triangle_violation((((0, 1, 2), (1, 0, 1), (2, 1, 1)), (0, 2, 5, 7))), (0, 1, 2))

    def test_class_with_itself(self):
        self.same(triangle_violation((((3, 0), (0, 0)), (0, 0, 0, 2))), None)
        self.same(triangle_violation((((3, 0), (0, 0)), (0, 0, 0, 3))), (0, 1, 0))

    def test_random_tables(self):
        chance = random.Random(5)
        found = {}
        for _ in range(400):
            table = some_table(chance, chance.randint(1, 4))
            wanted = self.told_triangle(table)
            found[wanted] = True
            self.same(triangle_violation(table), wanted)
        self.assertGreater(len(found), 8)


class PositionsTest(Case):
    """Positions at which one more box would be too close to none."""

    def told_positions(self, table, row, kind, length):
        free = [position for position in range(length)
                if not any(told_too_close(table, other, (kind, position)) for other in row)]
        firsts = [position for position in free if position - 1 not in free]
        lasts = [position for position in free if position + 1 not in free]
        return tuple(zip(firsts, lasts))

    def test_positions(self):
        self.same(allowed_positions(TABLE, [], 0, 12), ((0, 11),))
        self.same(allowed_positions(TABLE, [], 0, 0), ())
        self.same(allowed_positions(TABLE, [(0, 5)], 0, 12), ((0, 4), (6, 11)))
        self.same(allowed_positions(TABLE, [(1, 5)], 2, 12), ())
        self.same(allowed_positions(TABLE, [(1, 5)], 2, 13), ((12, 12),))
        self.same(allowed_positions(TABLE, [(1, 7)], 2, 13), ((0, 0),))
        self.same(allowed_positions(TABLE, [(0, 9), (2, 3)], 1, 20), ((11, 19),))

    def test_boxes_in_any_order_that_touch(self):
        self.same(allowed_positions(TABLE, [(0, 6), (0, 4), (0, 5)], 0, 12), ((0, 3), (7, 11)))
        self.same(allowed_positions(TABLE, [(0, 6), (0, 4)], 0, 12), ((0, 3), (5, 5), (7, 11)))
        self.same(allowed_positions(TABLE, [(0, 0), (0, 11)], 0, 12), ((1, 10),))

    def test_boxes_that_stand_behind_the_length(self):
        self.same(allowed_positions(TABLE, [(1, 12)], 2, 10), ((0, 5),))
        self.same(allowed_positions(TABLE, [(1, 30)], 2, 10), ((0, 9),))
        self.same(allowed_positions(TABLE, [(1, 16), (1, 3)], 2, 10), ())

    def test_random_rows(self):
        chance = random.Random(6)
        many = {}
        for _ in range(600):
            table = some_table(chance, 3)
            row = [(kind, chance.randint(0, 25)) for kind in some_classes(chance, table, 5)]
            kind, length = chance.randrange(3), chance.randint(0, 25)
            wanted = self.told_positions(table, row, kind, length)
            many[len(wanted)] = True
            self.same(allowed_positions(table, row, kind, length), wanted)
        self.assertGreater(len(many), 4)


class HoldsTest(Case):
    """[H4]: holds and conflict sets."""

    def told_holds(self, table, classes, degree):
        many = len(classes)
        for holds in range(many + 1):
            for places in itertools.product(range(holds), repeat=many):
                if not any(places[i] == places[j] and told_conflict(table, classes[i], classes[j], degree)
                           for i, j in itertools.combinations(range(many), 2)):
                    return holds, places
        return None

    def told_set(self, table, classes, degree):
        rows = [row for many in range(len(classes) + 1) for row in itertools.combinations(range(len(classes)), many)
                if all(told_conflict(table, classes[i], classes[j], degree) for i, j in itertools.combinations(row, 2))]
        return min(rows, key=lambda row: (-len(row), row))

    def test_edges(self):
        self.same(min_holds(TABLE, [], 1), (0, ()))
        self.same(largest_conflict_set(TABLE, [], 1), ())
        self.same(min_holds(TABLE, [1], 3), (1, (0,)))
        self.same(largest_conflict_set(TABLE, [1], 3), (0,))

    def test_holds(self):
        self.same(min_holds(TABLE, (0, 1, 2, 0), 1), (3, (0, 1, 2, 0)))
        self.same(min_holds(TABLE, (0, 1, 2, 0), 2), (2, (0, 0, 1, 0)))
        self.same(min_holds(TABLE, (0, 1, 2, 0), 3), (2, (0, 0, 1, 0)))
        self.same(min_holds(TABLE, (2, 2), 1), (2, (0, 1)))
        self.same(min_holds(TABLE, (2, 2), 2), (1, (0, 0)))

    def test_degree_0(self):
        self.same(min_holds(TABLE, (0, 0, 1, 1, 2), 0), (5, (0, 1, 2, 3, 4)))
        self.same(largest_conflict_set(TABLE, (0, 0, 1, 1, 2), 0), (0, 1, 2, 3, 4))

    def test_conflict_sets(self):
        self.same(largest_conflict_set(TABLE, (0, 1, 2, 0), 1), (0, 1, 2))
        self.same(largest_conflict_set(TABLE, (0, 1, 2, 0), 2), (0, 2))
        self.same(largest_conflict_set(TABLE, (0, 1, 2, 0), 3), (1, 2))
        self.same(largest_conflict_set(TABLE, (0, 0, 1), 2), (0,))
        self.same(largest_conflict_set(TABLE, (2, 2, 0), 1), (0, 1, 2))

    def test_random_classes(self):
        chance = random.Random(7)
        found = {}
        for _ in range(250):
            table = some_table(chance, 4)
            classes = some_classes(chance, table, 6)
            for degree in range(4):
                wanted = self.told_holds(table, classes, degree)
                found[wanted] = True
                self.same(min_holds(table, classes, degree), wanted)
                self.same(largest_conflict_set(table, classes, degree), self.told_set(table, classes, degree))
        self.assertGreater(len(found), 30)

    def test_more_holds_than_a_conflict_set_has_boxes(self):
        ring = [[3 if abs(i - j) in (1, 4) else 0 for j in range(5)] for i in range(5)]
        table = (ring, (0, 0, 0, 2))
        self.same(min_holds(table, [0, 1, 2, 3, 4], 1), (3, (0, 1, 0, 1, 2)))
        self.same(largest_conflict_set(table, [0, 1, 2, 3, 4], 1), (0, 1))

    def test_eight_boxes(self):
        chance = random.Random(8)
        for _ in range(3):
            table = some_table(chance, 8)
            classes = list(range(8))
            self.same(largest_conflict_set(table, classes, 2), self.told_set(table, classes, 2))
            holds, places = min_holds(table, classes, 2)
            self.same((holds, places), self.told_holds(table, classes, 2))
