"""[D1], [D2], [D3] and quaybest.pipeline."""

import itertools
import random

from quaybest.pipeline import (arrival, best_sequence, normalize, purge, push_a, push_b, separate, slop_of)
from support import Case


def units_of(sequence):
    return [product for product, amount in sequence for _ in range(amount)]


def batches_of(units):
    return tuple((product, len(list(row))) for product, row in itertools.groupby(units))


def told_push_a(pipe, load):
    """Unit by unit: the last unit of the pipe comes out at B."""
    units, out = units_of(pipe), []
    for unit in units_of(load):
        units.insert(0, unit)
        out.append(units.pop())
    return batches_of(units), batches_of(out)


def told_push_b(pipe, load):
    """Unit by unit: the first unit of the pipe comes out at A."""
    units, out = units_of(pipe), []
    for unit in units_of(load):
        units.append(unit)
        out.append(units.pop(0))
    return batches_of(units), batches_of(out)


def told_slop(sequence, mixing):
    """The places of the units that become slop."""
    units = units_of(sequence)
    slop = set()
    for k in range(1, len(units)):
        if units[k - 1] != units[k]:
            many = mixing[units[k - 1]][units[k]]
            slop |= set(range(max(0, k - many), min(len(units), k + many)))
    return slop


def told_separate(sequence, mixing):
    slop = told_slop(sequence, mixing)
    marks = [None if k in slop else unit for k, unit in enumerate(units_of(sequence))]
    return tuple(row for row in batches_of(marks) if row[0] is not None), len(slop)


def some_sequence(chance, least, most, products=3):
    return [(chance.randrange(products), chance.randint(1, 5)) for _ in range(chance.randint(least, most))]


def some_mixing(chance, most=4):
    rows = [[0] * 8 for _ in range(8)]
    for p, q in itertools.combinations(range(8), 2):
        rows[p][q] = rows[q][p] = chance.randint(0, most)
    return tuple(tuple(row) for row in rows)


class PipeTest(Case):
    """[D1], [D2]: batches that are pushed."""

    def test_examples(self):
        self.same(push_a(((1, 3), (2, 2)), ((0, 4),)), (((0, 4), (1, 1)), ((2, 2), (1, 2))))
        self.same(purge(((1, 3), (2, 2)), 1), (2, 5))

    def test_normalize(self):
        self.same(normalize([]), ())
        self.same(normalize([(1, 2), (1, 3), (2, 1), (1, 1), (1, 1)]), ((1, 5), (2, 1), (1, 2)))
        chance = random.Random(1)
        for _ in range(200):
            sequence = some_sequence(chance, 0, 8)
            self.same(normalize(sequence), batches_of(units_of(sequence)))

    def test_pushing(self):
        chance = random.Random(2)
        for _ in range(600):
            pipe, load = some_sequence(chance, 1, 5), some_sequence(chance, 0, 6)
            self.same(push_a(pipe, load), told_push_a(pipe, load))
            self.same(push_b(pipe, load), told_push_b(pipe, load))

    def test_no_load(self):
        self.same(push_a([(1, 2), (1, 1)], []), (((1, 3),), ()))
        self.same(push_b([(1, 2), (1, 1)], []), (((1, 3),), ()))

    def test_load_with_more_units_than_the_pipe(self):
        self.same(push_a([(1, 2), (2, 1)], [(3, 2), (4, 3)]), (((4, 3),), ((2, 1), (1, 2), (3, 2))))
        self.same(push_b([(1, 2), (2, 1)], [(3, 2), (4, 2)]), (((3, 1), (4, 2)), ((1, 2), (2, 1), (3, 1))))

    def test_just_the_units_of_the_pipe(self):
        self.same(push_a([(1, 2), (2, 1)], [(3, 1), (4, 2)]), (((4, 2), (3, 1)), ((2, 1), (1, 2))))
        self.same(push_b([(1, 2), (2, 1)], [(3, 1), (4, 2)]), (((3, 1), (4, 2)), ((1, 2), (2, 1))))

    def test_many_units(self):
        many = 10 ** 15
        self.same(push_a([(1, many)], [(2, many - 1)]), (((2, many - 1), (1, 1)), ((1, many - 1),)))
        self.same(push_b([(1, many)], [(2, many - 1)]), (((1, 1), (2, many - 1)), ((1, many - 1),)))

    def test_purge(self):
        chance = random.Random(3)
        for _ in range(200):
            pipe = some_sequence(chance, 1, 5)
            for product in range(4):
                found = []
                for push in (told_push_a, told_push_b):
                    found.append(next(many for many in range(100)
                                      if set(units_of(push(pipe, [(product, many)])[0])) == {product}))
                self.same(purge(pipe, product), tuple(found))

    def test_nothing_to_purge(self):
        self.same(purge([(5, 2), (5, 7)], 5), (0, 0))

    def test_arrival(self):
        chance = random.Random(4)
        for _ in range(200):
            pipe = some_sequence(chance, 1, 6)
            rows = batches_of(units_of(pipe))
            for batch, (_, amount) in enumerate(rows):
                ahead = sum(row[1] for row in rows[:batch])
                behind = sum(row[1] for row in rows[batch + 1:])
                self.same(arrival(pipe, batch), ((ahead, ahead + amount), (behind, behind + amount)))
                for push, (first, last) in zip((told_push_b, told_push_a), arrival(pipe, batch)):
                    out = units_of(push(pipe, [(7, last)])[1])
                    self.assertEqual(out[first:], [rows[batch][0]] * amount)


class SlopTest(Case):
    """[D3]: slop between products."""

    def test_random_sequences(self):
        chance = random.Random(5)
        for _ in range(1500):
            mixing = some_mixing(chance, chance.choice((1, 2, 4, 9)))
            sequence = some_sequence(chance, 0, 7, 4)
            self.same(separate(sequence, mixing), told_separate(sequence, mixing))
            self.same(slop_of(sequence, mixing), len(told_slop(sequence, mixing)))

    def test_empty_sequence(self):
        self.same(separate([], some_mixing(random.Random(6))), ((), 0))
        self.same(slop_of([], some_mixing(random.Random(6))), 0)

    def mixing(self, many):
        return tuple(tuple(0 if p == q else many for q in range(8)) for p in range(8))

    def test_amounts_above_and_below_the_reach(self):
        self.same(separate([(1, 9), (2, 9)], self.mixing(3)), (((1, 6), (2, 6)), 6))
        self.same(separate([(1, 3), (2, 4)], self.mixing(3)), (((2, 1),), 6))
        self.same(separate([(1, 2), (2, 2)], self.mixing(3)), ((), 4))
        self.same(separate([(1, 10 ** 12), (2, 1), (1, 10 ** 12)], self.mixing(3)),
                  (((1, 10 ** 12 - 3), (1, 10 ** 12 - 3)), 7))

    def test_slop_over_whole_batches(self):
        self.same(separate([(1, 9), (2, 1), (3, 1), (4, 9)], self.mixing(4)), (((1, 5), (4, 5)), 10))

    def test_no_mixing(self):
        self.same(separate([(1, 2), (1, 1), (2, 1), (1, 1)], self.mixing(0)), (((1, 3), (2, 1), (1, 1)), 0))

    def test_best_sequence(self):
        chance = random.Random(7)
        for _ in range(60):
            mixing = some_mixing(chance, chance.choice((1, 3)))
            batches = some_sequence(chance, 0, 5, 4)
            orders = list(itertools.permutations(range(len(batches))))
            slop = {order: len(told_slop([batches[k] for k in order], mixing)) for order in orders}
            least = min(slop.values())
            self.same(best_sequence(batches, mixing), (min(row for row in orders if slop[row] == least), least))

    def test_six_batches(self):
        batches = [(1, 5), (2, 5), (1, 5), (2, 5), (1, 5), (2, 5)]
        self.same(best_sequence(batches, self.mixing(1)), ((0, 2, 4, 1, 3, 5), 2))
