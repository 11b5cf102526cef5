"""[G4], [G5] and quaybest.moments."""

import itertools
import random

from quaybest.moments import BadBoxes, distribute, min_moment_order, moment
from support import Case


def told_moment(boxes):
    """By the words of [G4]."""
    return sum(weight * (height + 2 * sum(other[1] for other in boxes[:number]))
               for number, (weight, height) in enumerate(boxes))


def told_order(boxes):
    orders = itertools.permutations(range(len(boxes)))
    least = min((told_moment([boxes[number] for number in order]), order) for order in orders)
    return least[1], least[0]


def told_distribution(boxes, stacks):
    found = []
    for places in itertools.product(range(stacks), repeat=len(boxes)):
        measures = [told_order([box for box, place in zip(boxes, places) if place == stack])[1]
                    for stack in range(stacks)]
        found.append((max(measures), places))
    return min(found)[::-1]


def some_boxes(chance, most, limits):
    return [(chance.randint(1, limits[0]), chance.randint(1, limits[1])) for _ in range(chance.randint(0, most))]


class MomentTest(Case):
    """The moment of boxes as they stand."""

    def test_example(self):
        self.same(moment([(10, 2), (10, 3), (4, 1)]), 134)

    def test_edges(self):
        self.same(moment([]), 0)
        self.same(moment([(1, 1)]), 1)
        self.same(moment([(400, 40)]), 16000)
        self.same(moment([(400, 40)] * 9), 400 * 40 * 81)

    def test_order_counts(self):
        self.same(moment([(1, 2), (3, 4)]), 2 + 3 * 8)
        self.same(moment([(3, 4), (1, 2)]), 12 + 10)

    def test_random_boxes(self):
        chance = random.Random(1)
        for _ in range(300):
            boxes = some_boxes(chance, 9, (400, 40))
            self.same(moment(boxes), told_moment(boxes))


class ErrorsTest(Case):
    """Boxes that are wrong."""

    def test_wrong_boxes(self):
        for call in (moment, min_moment_order, lambda boxes: distribute(boxes, 2)):
            for wrong in ((0, 1), (401, 1), (1, 0), (1, 41), (-1, -1)):
                self.refused(BadBoxes, call, [(1, 1), (400, 40), wrong, (0, 0)], told={"number": 2})
                self.refused(BadBoxes, call, [wrong], told={"number": 0})

    def test_too_many(self):
        for boxes in ([(1, 1)] * 10, [(0, 0)] * 10):
            self.refused(BadBoxes, moment, boxes, told={"number": None})
            self.refused(BadBoxes, min_moment_order, boxes, told={"number": None})
        for boxes in ([(1, 1)] * 9, [(0, 0)] * 9):
            self.refused(BadBoxes, distribute, boxes, 2, told={"number": None})

    def test_as_many_as_may_be(self):
        self.same(moment([(1, 1)] * 9), 81)
        self.same(min_moment_order([(1, 1)] * 9), (tuple(range(9)), 81))
        self.same(distribute([(1, 1)] * 8, 1), ((0,) * 8, 64))


class OrderTest(Case):
    """The first of the orders with the least moment."""

    def test_orders(self):
        self.same(min_moment_order([]), ((), 0))
        self.same(min_moment_order([(7, 3)]), ((0,), 21))
        self.same(min_moment_order([(10, 2), (10, 3), (4, 1)]), ((0, 2, 1), told_moment([(10, 2), (4, 1), (10, 3)])))
        self.same(min_moment_order([(1, 2), (3, 4)]), ((1, 0), 22))

    def test_equal_boxes(self):
        self.same(min_moment_order([(2, 4), (1, 2), (3, 6), (1, 1), (400, 40)])[0], (4, 3, 0, 1, 2))

    def test_weights_that_nearly_match(self):
        self.same(min_moment_order([(399, 39), (400, 39), (398, 39), (400, 40)])[0], (1, 0, 2, 3))

    def test_by_all_orders(self):
        chance = random.Random(2)
        for _ in range(150):
            boxes = some_boxes(chance, 6, chance.choice(((4, 4), (400, 40))))
            self.same(min_moment_order(boxes), told_order(boxes))


class DistributeTest(Case):
    """The first of the places with the least measure."""

    def test_distributions(self):
        self.same(distribute([], 1), ((), 0))
        self.same(distribute([], 3), ((), 0))
        self.same(distribute([(5, 5)], 3), ((0,), 25))
        self.same(distribute([(1, 1)] * 2, 2), ((0, 1), 1))
        self.same(distribute([(1, 1)] * 4, 3), ((0, 0, 1, 1), 4))
        self.same(distribute([(9, 9), (1, 1), (1, 1)], 2), ((0, 1, 1), 81))

    def test_least_moment_of_each_stack(self):
        self.same(distribute([(1, 40), (400, 1)], 1), ((0, 0), 400 + 42))

    def test_by_all_places(self):
        chance = random.Random(3)
        for _ in range(60):
            boxes = some_boxes(chance, 4, chance.choice(((3, 3), (400, 40))))
            for stacks in (1, 2, 3):
                self.same(distribute(boxes, stacks), told_distribution(boxes, stacks))

    def test_eight_boxes(self):
        boxes = [(k % 3 + 1, k % 2 + 1) for k in range(8)]
        places, measure = distribute(boxes, 3)
        self.same(measure, max(told_order([boxes[k] for k in range(8) if places[k] == stack])[1] for stack in range(3)))
        self.same(distribute(boxes[:5], 3), told_distribution(boxes[:5], 3))
