"""[F1] to [F4] and quaybest.stowage."""

import itertools
import random

from quaybest.stowage import (crossings, fewest_shifts, largest_clique, lifted_at, shift_count, shift_free_plan,
                              shortest_odd_cycle, simulated, stacks_after, turned_round)
from support import Case


class Ship:
    """A ship by the words of [F2], event by event."""

    def __init__(self, boxes, plan):
        self.boxes, self.plan = boxes, plan
        self.stacks = [[] for _ in range(max(plan) + 1)] if boxes else []
        self.events = []

    def open_stacks(self, port):
        for stack in self.stacks:
            lifted = []
            while any(self.boxes[box][1] == port for box in stack):
                box = stack.pop()
                if self.boxes[box][1] == port:
                    self.events.append((port, "discharge", box))
                else:
                    self.events.append((port, "lift", box))
                    lifted.append(box)
            while lifted:
                stack.append(lifted.pop())
                self.events.append((port, "restow", stack[-1]))

    def load(self, port):
        for number, stack in enumerate(self.stacks):
            left = [box for box, (start, _) in enumerate(self.boxes) if start == port and self.plan[box] == number]
            while left:
                latest = max(self.boxes[box][1] for box in left)
                box = min(box for box in left if self.boxes[box][1] == latest)
                left.remove(box)
                stack.append(box)
                self.events.append((port, "load", box))

    def work_to(self, last):
        for port in range(last + 1):
            self.open_stacks(port)
            self.load(port)
        return self


def told_events(boxes, plan):
    return Ship(boxes, plan).work_to(11).events


def told_shifts(boxes, plan):
    return sum(event[1] == "lift" for event in told_events(boxes, plan))


def told_crosses(first, second):
    return first[0] < second[0] and second[0] < first[1] and first[1] < second[1]


def told_conflict(first, second):
    return told_crosses(first, second) or told_crosses(second, first)


def told_height(boxes, plan):
    return max([len(stack) for port in range(12) for stack in Ship(boxes, plan).work_to(port).stacks], default=0)


def some_boxes(chance, most, last=11):
    found = []
    for _ in range(chance.randint(0, most)):
        start = chance.randint(0, last - 1)
        found.append((start, chance.randint(start + 1, last)))
    return found


def all_boxes(many):
    """All tuples of so many boxes of a few ports."""
    pairs = [(start, stop) for start in range(4) for stop in range(start + 1, 4)]
    return itertools.product(pairs, repeat=many)


class EventsTest(Case):
    """[F1], [F2]: the work in the ports."""

    def test_example(self):
        self.same(simulated([(0, 2), (1, 3)], [0, 0]),
                  ((0, "load", 0), (1, "load", 1), (2, "lift", 1), (2, "discharge", 0), (2, "restow", 1),
                   (3, "discharge", 1)))

    def test_no_boxes(self):
        self.same(simulated([], []), ())
        self.same(shift_count([], []), 0)
        self.same(stacks_after([], [], 5), ())
        self.same(lifted_at([], [], 5), ())

    def test_first_and_last_port(self):
        self.same(simulated([(0, 11)], [0]), ((0, "load", 0), (11, "discharge", 0)))
        self.same(stacks_after([(0, 11)], [0], 0), ((0,),))
        self.same(stacks_after([(0, 11)], [0], 10), ((0,),))
        self.same(stacks_after([(0, 11)], [0], 11), ((),))

    def test_stacks_that_the_plan_leaves_out(self):
        self.same(stacks_after([(0, 5), (1, 6)], [3, 1], 1), ((), (1,), (), (0,)))

    def test_order_of_loading(self):
        boxes = [(0, 3), (0, 5), (0, 3), (0, 7), (0, 5)]
        self.same(stacks_after(boxes, [0] * 5, 0), ((3, 1, 4, 0, 2),))
        self.same(simulated(boxes, [1, 0, 0, 1, 0])[:5],
                  ((0, "load", 1), (0, "load", 4), (0, "load", 2), (0, "load", 3), (0, "load", 0)))
        self.same(shift_count(boxes, [0] * 5), 0)

    def test_boxes_are_lifted_and_stand_as_they_stood(self):
        boxes = [(0, 4), (1, 6), (2, 5), (3, 9)]
        plan = [0, 0, 0, 0]
        self.same(lifted_at(boxes, plan, 4), (3, 2, 1))
        self.same(simulated(boxes, plan)[4:11],
                  ((4, "lift", 3), (4, "lift", 2), (4, "lift", 1), (4, "discharge", 0), (4, "restow", 1),
                   (4, "restow", 2), (4, "restow", 3)))
        self.same(stacks_after(boxes, plan, 4), ((1, 2, 3),))
        self.same(lifted_at(boxes, plan, 5), (3,))
        self.same(lifted_at(boxes, plan, 7), ())
        self.same(shift_count(boxes, plan), 5)

    def test_discharged_between_lifted_ones(self):
        boxes = [(0, 5), (1, 7), (2, 5), (3, 8)]
        plan = [0, 0, 0, 0]
        self.same([event for event in simulated(boxes, plan) if event[0] == 5],
                  [(5, "lift", 3), (5, "discharge", 2), (5, "lift", 1), (5, "discharge", 0), (5, "restow", 1),
                   (5, "restow", 3)])

    def test_stacks_are_opened_before_any_loading(self):
        boxes = [(0, 3), (0, 3), (3, 5), (3, 6)]
        self.same([event for event in simulated(boxes, [0, 1, 0, 1]) if event[0] == 3],
                  [(3, "discharge", 0), (3, "discharge", 1), (3, "load", 2), (3, "load", 3)])

    def test_stack_that_empties_and_is_used_again(self):
        boxes = [(0, 2), (2, 4), (4, 5)]
        self.same(simulated(boxes, [0, 0, 0]),
                  ((0, "load", 0), (2, "discharge", 0), (2, "load", 1), (4, "discharge", 1), (4, "load", 2),
                   (5, "discharge", 2)))
        self.same(stacks_after(boxes, [0, 0, 0], 2), ((1,),))

    def test_two_boxes_with_the_same_port(self):
        boxes = [(0, 4), (1, 4)]
        self.same(simulated(boxes, [0, 0])[2:], ((4, "discharge", 1), (4, "discharge", 0)))
        self.same(shift_count(boxes, [0, 0]), 0)

    def test_random_plans(self):
        chance = random.Random(1)
        for _ in range(1500):
            boxes = some_boxes(chance, 10, chance.choice((3, 11)))
            plan = [chance.randrange(3) for _ in boxes]
            events = told_events(boxes, plan)
            self.same(simulated(boxes, plan), tuple(events))
            self.same(shift_count(boxes, plan), told_shifts(boxes, plan))
            for port in range(12):
                self.same(stacks_after(boxes, plan, port), tuple(map(tuple, Ship(boxes, plan).work_to(port).stacks)))
                self.same(lifted_at(boxes, plan, port),
                          tuple(box for at, word, box in events if at == port and word == "lift"))


class ConflictsTest(Case):
    """[F3]: crossing boxes."""

    def test_crossings(self):
        self.same(crossings([(0, 3), (1, 4), (2, 5)]), ((0, 1), (0, 2), (1, 2)))
        self.same(crossings([(2, 5), (1, 4), (0, 3)]), ((1, 0), (2, 0), (2, 1)))
        self.same(crossings([]), ())

    def test_boxes_that_do_not_cross(self):
        for pair in ([(0, 3), (3, 5)], [(0, 3), (0, 5)], [(0, 5), (2, 5)], [(0, 5), (1, 4)], [(0, 2), (3, 5)],
                     [(0, 3), (0, 3)]):
            self.same(crossings(pair), ())
            self.same(crossings(pair[::-1]), ())

    def test_random_boxes(self):
        chance = random.Random(2)
        for _ in range(300):
            boxes = some_boxes(chance, 12)
            self.same(crossings(boxes), tuple((i, j) for i in range(len(boxes)) for j in range(len(boxes))
                                              if told_crosses(boxes[i], boxes[j])))

    def test_no_shift_exactly_without_conflicts(self):
        chance = random.Random(3)
        for _ in range(1000):
            boxes = some_boxes(chance, 5, 6)
            plan = [chance.randrange(2) for _ in boxes]
            free = not any(told_conflict(boxes[i], boxes[j]) and plan[i] == plan[j]
                           for i in range(len(boxes)) for j in range(i))
            self.assertEqual(shift_count(boxes, plan) == 0, free)


class PlansTest(Case):
    """[F4]: the first plans without shifts, or with the fewest."""

    def told_free(self, boxes, stacks):
        return next((plan for plan in itertools.product(range(stacks), repeat=len(boxes))
                     if told_shifts(boxes, plan) == 0), None)

    def told_fewest(self, boxes, stacks, height):
        plans = [plan for plan in itertools.product(range(stacks), repeat=len(boxes))
                 if told_height(boxes, plan) <= height]
        return min([(told_shifts(boxes, plan), plan) for plan in plans], default=None)

    def test_example(self):
        self.same(fewest_shifts([(0, 3), (1, 4), (2, 5)], 2, 9), (1, (0, 0, 1)))

    def test_shift_free_plans(self):
        self.same(shift_free_plan([], 1), ())
        self.same(shift_free_plan([(0, 3), (1, 4), (2, 5)], 2), None)
        self.same(shift_free_plan([(0, 3), (1, 4), (2, 5)], 3), (0, 1, 2))
        self.same(shift_free_plan([(0, 3), (1, 4), (0, 2), (3, 5)], 2), (0, 1, 0, 0))

    def test_shift_free_plans_by_all_plans(self):
        chance = random.Random(4)
        none = 0
        for _ in range(250):
            boxes = some_boxes(chance, 6)
            for stacks in (1, 2, 3):
                wanted = self.told_free(boxes, stacks)
                none += wanted is None
                self.same(shift_free_plan(boxes, stacks), wanted)
        self.assertGreater(none, 50)

    def test_numbers_that_must_be_changed_again(self):
        boxes = [(0, 2), (4, 6), (1, 5), (2, 4), (3, 8)]
        self.same(shift_free_plan(boxes, 2), self.told_free(boxes, 2))
        chance = random.Random(5)
        for _ in range(60):
            boxes = some_boxes(chance, 5) + some_boxes(chance, 2)
            self.same(shift_free_plan(boxes, 4), self.told_free(boxes, 4))

    def test_twelve_boxes(self):
        boxes = [(k, k + 4) for k in range(4)] * 3
        self.same(shift_free_plan(boxes, 4), (0, 1, 2, 3) * 3)
        self.same(shift_free_plan(boxes, 3), None)
        self.same(shift_free_plan([(0, 1)] * 7 + [(k, k + 5) for k in range(5)], 4), None)
        self.same(shift_free_plan([(0, 1)] * 8 + [(k, k + 5) for k in range(4)], 4), (0,) * 9 + (1, 2, 3))

    def test_fewest_shifts_by_all_plans(self):
        chance = random.Random(6)
        found = {}
        for _ in range(120):
            boxes = some_boxes(chance, 5, chance.choice((5, 11)))
            for stacks in (1, 2, 3):
                height = chance.choice((0, 1, 2, 3, 9))
                wanted = self.told_fewest(boxes, stacks, height)
                found[wanted and wanted[0]] = True
                self.same(fewest_shifts(boxes, stacks, height), wanted)
        self.assertGreaterEqual(len(found), 4)

    def test_all_small_boxes(self):
        for many in range(4):
            for boxes in all_boxes(many):
                self.same(fewest_shifts(boxes, 2, 2), self.told_fewest(boxes, 2, 2))

    def test_heights(self):
        self.same(fewest_shifts([], 1, 0), (0, ()))
        self.same(fewest_shifts([(0, 1)], 3, 0), None)
        self.same(fewest_shifts([(0, 2), (0, 2)], 1, 1), None)
        self.same(fewest_shifts([(0, 2), (0, 2)], 2, 1), (0, (0, 1)))
        self.same(fewest_shifts([(0, 2), (0, 2)], 2, 2), (0, (0, 0)))
        self.same(fewest_shifts([(0, 2), (2, 4), (4, 11)], 1, 1), (0, (0, 0, 0)))
        self.same(fewest_shifts([(0, 3), (1, 4), (2, 5)], 2, 1), None)
        self.same(fewest_shifts([(0, 3), (1, 4), (2, 5)], 1, 3), (3, (0, 0, 0)))
        self.same(fewest_shifts([(0, 3), (1, 4), (2, 5)], 1, 2), None)

    def test_seven_boxes(self):
        boxes = [(k, k + 4) for k in range(7)]
        self.same(fewest_shifts(boxes, 3, 7), min((told_shifts(boxes, plan), plan)
                                                  for plan in itertools.product(range(3), repeat=7)))


class CliqueTest(Case):
    """Sets and rings of boxes in conflict."""

    def told_clique(self, boxes):
        cliques = [row for many in range(len(boxes) + 1) for row in itertools.combinations(range(len(boxes)), many)
                   if all(told_conflict(boxes[i], boxes[j]) for i, j in itertools.combinations(row, 2))]
        return min(cliques, key=lambda row: (-len(row), row))

    def told_cycle(self, boxes):
        for length in range(3, len(boxes) + 1, 2):
            for row in itertools.permutations(range(len(boxes)), length):
                if all(told_conflict(boxes[row[k - 1]], boxes[row[k]]) for k in range(length)):
                    return row
        return None

    def test_cliques(self):
        self.same(largest_clique([]), ())
        self.same(largest_clique([(0, 1)]), (0,))
        self.same(largest_clique([(0, 1), (2, 3)]), (0,))
        self.same(largest_clique([(0, 3), (0, 3), (1, 4)]), (0, 2))
        self.same(largest_clique([(0, 1), (2, 5), (3, 6), (4, 7)]), (1, 2, 3))

    def test_random_cliques(self):
        chance = random.Random(7)
        for _ in range(300):
            boxes = some_boxes(chance, 9)
            self.same(largest_clique(boxes), self.told_clique(boxes))

    def test_clique_of_twelve_boxes(self):
        boxes = [(k % 6, k % 6 + 6 - (k // 6)) for k in range(12)]
        self.same(largest_clique(boxes), self.told_clique(boxes))
        self.same(largest_clique([(0, 1)] * 6 + [(k, k + 6) for k in range(6)]), tuple(range(6, 12)))

    def test_odd_cycles(self):
        self.same(shortest_odd_cycle([]), None)
        self.same(shortest_odd_cycle([(0, 1)]), None)
        self.same(shortest_odd_cycle([(0, 3), (1, 4)]), None)
        self.same(shortest_odd_cycle([(0, 3), (1, 4), (2, 5)]), (0, 1, 2))
        self.same(shortest_odd_cycle([(0, 1), (2, 5), (1, 4), (0, 3)]), (1, 2, 3))

    def test_cycle_of_five(self):
        boxes = [(0, 3), (2, 5), (4, 8), (6, 10), (1, 9)]
        self.same(shortest_odd_cycle(boxes), self.told_cycle(boxes))
        self.same(len(shortest_odd_cycle(boxes)), 5)

    def test_random_cycles(self):
        chance = random.Random(8)
        lengths = {}
        for _ in range(1200):
            boxes = some_boxes(chance, 7)
            wanted = self.told_cycle(boxes)
            lengths[wanted and len(wanted)] = True
            self.same(shortest_odd_cycle(boxes), wanted)
        self.assertEqual(sorted(lengths, key=str), [3, 5, None])

    def test_cycle_of_seven(self):
        boxes = [(0, 2), (1, 4), (3, 6), (5, 8), (7, 10), (9, 11)]
        self.same(shortest_odd_cycle(boxes), None)
        self.same(shortest_odd_cycle([*boxes, (1, 10)]), self.told_cycle([*boxes, (1, 10)]))

    def test_turned_round(self):
        self.same(turned_round([(0, 11), (2, 3), (0, 1)]), ((0, 11), (8, 9), (10, 11)))
        self.same(turned_round([]), ())

    def test_turning_round_keeps_conflicts(self):
        chance = random.Random(9)
        for _ in range(100):
            boxes = some_boxes(chance, 8)
            self.same(turned_round(turned_round(boxes)), tuple(boxes))
            self.same(crossings(turned_round(boxes)), tuple(sorted((j, i) for i, j in crossings(boxes))))
