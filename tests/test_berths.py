"""[C1] to [C7] and quaybest.berths."""

import itertools
import random

from quaybest.berths import (Overlapping, TooEarly, best_order, compacted, conflicts, critical_chain, delay_effect,
                             free_bollards, slack, starts, stay_effect, waiting)
from support import Case

SHIPS = [(0, 4, 0, 10), (3, 3, 2, 5), (6, 4, 1, 8), (5, 2, 4, 6), (0, 2, 30, 5)]


def bollards_of(ship):
    return set(range(ship[0], ship[0] + ship[1]))


def minutes_of(ship, start):
    return set(range(start, start + ship[3]))


def told_shares(first, second):
    return bool(bollards_of(first) & bollards_of(second))


def told_starts(ships):
    """Ship by ship, minute by minute."""
    found = []
    for number, ship in enumerate(ships):
        minute = ship[2]
        while any(told_shares(ships[k], ship) and minute < found[k] + ships[k][3] for k in range(number)):
            minute += 1
        found.append(minute)
    return tuple(found)


def told_chain(ships, number):
    begins = told_starts(ships)
    critical = [k for k in range(number) if told_shares(ships[k], ships[number])
                and begins[k] + ships[k][3] == begins[number] > ships[number][2]]
    return (told_chain(ships, critical[0]) if critical else ()) + (number,)


def told_effect(ships, number, later, longer):
    position, length, ready, stay = ships[number]
    changed = list(ships)
    changed[number] = (position, length, ready + later, stay + longer)
    pairs = zip(told_starts(ships), told_starts(changed))
    return tuple((k, after - before) for k, (before, after) in enumerate(pairs) if after > before)


def told_slack(ships, number):
    def moves_others(by):
        return any(k != number for k, _ in told_effect(ships, number, by, 0))
    if not moves_others(200):
        return None
    return next(by for by in range(200) if moves_others(by + 1))


def told_conflicts(ships, plan):
    early = tuple(k for k, ship in enumerate(ships) if plan[k] < ship[2])
    pairs = tuple((i, j) for i, j in itertools.combinations(range(len(ships)), 2) if told_shares(ships[i], ships[j])
                  and minutes_of(ships[i], plan[i]) & minutes_of(ships[j], plan[j]))
    return early, pairs


def told_compacted(ships, plan):
    placed = {}
    for number in sorted(range(len(ships)), key=lambda k: (plan[k], k)):
        ship = ships[number]
        minute = ship[2]
        while any(told_shares(ships[k], ship) and minutes_of(ships[k], at) & minutes_of(ship, minute)
                  for k, at in placed.items()):
            minute += 1
        placed[number] = minute
    return tuple(placed[k] for k in range(len(ships)))


def some_ships(chance, most=7, latest=15, longest=8):
    return [(chance.randint(0, 6), chance.randint(1, 4), chance.randint(0, latest), chance.randint(1, longest))
            for _ in range(chance.randint(0, most))]


class EarliestStartsTest(Case):
    """[C1], [C2], [C3], [C4]: what follows from the order of the ships."""

    def test_examples(self):
        self.same(starts(SHIPS), (0, 10, 1, 15, 30))
        self.same(critical_chain(SHIPS, 3), (0, 1, 3))
        self.same(delay_effect(SHIPS, 0, 3), ((0, 3), (1, 3), (3, 3)))
        self.same(slack(SHIPS, 1), 8)

    def test_random_ships(self):
        chance = random.Random(1)
        for _ in range(250):
            ships = some_ships(chance)
            self.same(starts(ships), told_starts(ships))
            for number in range(len(ships)):
                self.same(critical_chain(ships, number), told_chain(ships, number))
                self.same(slack(ships, number), told_slack(ships, number))
                for by in (1, 2, 5, 30):
                    self.same(delay_effect(ships, number, by), told_effect(ships, number, by, 0))
                    self.same(stay_effect(ships, number, by), told_effect(ships, number, 0, by))

    def test_no_ships(self):
        self.same(starts([]), ())

    def test_neighbouring_bollards_are_not_shared(self):
        self.same(starts([(0, 4, 0, 10), (4, 2, 0, 5)]), (0, 0))
        self.same(starts([(4, 2, 0, 5), (0, 4, 0, 10)]), (0, 0))
        self.same(starts([(0, 5, 0, 10), (4, 2, 0, 5)]), (0, 10))
        self.same(starts([(4, 2, 0, 5), (0, 5, 0, 10)]), (0, 5))

    def test_ship_that_is_ready_as_another_leaves(self):
        ships = [(0, 2, 0, 10), (1, 2, 10, 5), (1, 2, 11, 5)]
        self.same(starts(ships), (0, 10, 15))
        self.same(critical_chain(ships, 1), (1,))
        self.same(critical_chain(ships, 2), (1, 2))

    def test_smallest_critical_predecessor(self):
        ships = [(0, 1, 0, 10), (1, 1, 0, 10), (0, 2, 0, 5)]
        self.same(critical_chain(ships, 2), (0, 2))

    def test_no_slack(self):
        self.same(slack([(0, 2, 0, 5), (0, 2, 0, 5)], 0), 0)
        self.same(slack([(0, 2, 0, 5), (0, 2, 9, 5)], 0), 4)
        self.assertIsNone(slack([(0, 2, 0, 5), (0, 2, 0, 5)], 1))
        self.assertIsNone(slack([(0, 2, 0, 5), (2, 2, 0, 5)], 0))

    def test_far_minutes(self):
        ships = [(0, 2, 0, 10 ** 12), (1, 10 ** 9, 5, 1)]
        self.same(starts(ships), (0, 10 ** 12))
        self.same(slack(ships, 0), 0)


class FreeBollardsTest(Case):
    """The stretches at which no ship lies."""

    def test_random_ships(self):
        chance = random.Random(2)
        for _ in range(200):
            ships = some_ships(chance)
            begins = told_starts(ships)
            for minute in range(-1, 30):
                taken = set()
                for ship, start in zip(ships, begins):
                    if minute in minutes_of(ship, start):
                        taken |= bollards_of(ship)
                for bollards in (1, 5, 11):
                    free = [k for k in range(bollards) if k not in taken]
                    rows = []
                    for k in free:
                        if rows and rows[-1][1] == k - 1:
                            rows[-1] = (rows[-1][0], k)
                        else:
                            rows.append((k, k))
                    self.same(free_bollards(bollards, ships, minute), tuple(rows))

    def test_first_and_last_minute_of_a_stay(self):
        ships = [(2, 3, 5, 4)]
        self.same(free_bollards(8, ships, 4), ((0, 7),))
        self.same(free_bollards(8, ships, 5), ((0, 1), (5, 7)))
        self.same(free_bollards(8, ships, 8), ((0, 1), (5, 7)))
        self.same(free_bollards(8, ships, 9), ((0, 7),))
        self.same(free_bollards(5, ships, 5), ((0, 1),))
        self.same(free_bollards(10 ** 9, ships, 5), ((0, 1), (5, 10 ** 9 - 1)))

    def test_whole_quay(self):
        self.same(free_bollards(3, [(0, 3, 0, 1)], 0), ())
        self.same(free_bollards(3, [(1, 2, 0, 1), (0, 1, 0, 1)], 0), ())


class PlanTest(Case):
    """[C5], [C6]: plans."""

    def test_random_plans(self):
        chance = random.Random(3)
        feasible = 0
        for _ in range(3000):
            ships = some_ships(chance, 5, 5, 5)
            plan = [chance.randint(0, 30) for _ in ships]
            if chance.random() < 0.5:
                plan = [max(start, ship[2]) for start, ship in zip(plan, ships)]
            early, pairs = told_conflicts(ships, plan)
            self.same(conflicts(ships, plan), (early, pairs))
            for call in (waiting, compacted):
                if early:
                    self.refused(TooEarly, call, ships, plan, told={"ship": early[0]})
                elif pairs:
                    self.refused(Overlapping, call, ships, plan, told={"ships": pairs[0]})
            if not early and not pairs:
                feasible += 1
                self.same(waiting(ships, plan), sum(plan) - sum(ship[2] for ship in ships))
                self.compare_compacted(ships, plan)
        self.assertGreater(feasible, 500)

    def compare_compacted(self, ships, plan):
        found = compacted(ships, plan)
        self.same(found, told_compacted(ships, plan))
        self.assertEqual(told_conflicts(ships, found), ((), ()))

    def test_preceding_ships_need_not_start_first(self):
        ships = [(0, 2, 0, 5), (0, 2, 0, 5)]
        self.same(waiting(ships, (5, 0)), 5)
        self.same(compacted(ships, (9, 3)), (5, 0))

    def test_equal_starts(self):
        ships = [(0, 2, 0, 5), (4, 2, 0, 5), (1, 4, 0, 3)]
        self.same(compacted(ships, (7, 7, 20)), (0, 0, 5))
        ships = [(0, 1, 0, 2), (2, 1, 0, 2), (0, 3, 0, 1)]
        self.same(compacted(ships, (5, 5, 4)), (1, 1, 0))

    def test_gaps_that_are_just_long_enough(self):
        ships = [(0, 2, 0, 5), (0, 2, 9, 5), (0, 2, 0, 4), (0, 2, 0, 5)]
        self.same(compacted(ships[:3], (0, 9, 20)), (0, 9, 5))
        self.same(compacted([ships[0], ships[1], ships[3]], (0, 9, 20)), (0, 9, 14))

    def test_leaving_and_starting_in_one_minute(self):
        ships = [(0, 2, 0, 5), (0, 2, 0, 5)]
        self.same(conflicts(ships, (0, 5)), ((), ()))
        self.same(conflicts(ships, (0, 4)), ((), ((0, 1),)))
        self.same(conflicts(ships, (4, 0)), ((), ((0, 1),)))

    def test_too_early_is_told_first(self):
        ships = [(0, 2, 0, 5), (0, 2, 1, 5), (0, 2, 2, 5)]
        self.same(conflicts(ships, (0, 0, 0)), ((1, 2), ((0, 1), (0, 2), (1, 2))))
        for call in (waiting, compacted):
            self.refused(TooEarly, call, ships, (0, 0, 0), told={"ship": 1})
            self.refused(Overlapping, call, ships, (20, 3, 3), told={"ships": (1, 2)})

    def test_no_ships(self):
        self.same(conflicts([], []), ((), ()))
        self.same(waiting([], []), 0)
        self.same(compacted([], []), ())


class OrderTest(Case):
    """[C7]: orders."""

    def waiting_of(self, ships, order):
        begins = told_starts([ships[k] for k in order])
        return sum(begins) - sum(ship[2] for ship in ships)

    def test_all_orders(self):
        chance = random.Random(4)
        for _ in range(60):
            ships = some_ships(chance, 5) or [(0, 1, 0, 1)]
            orders = list(itertools.permutations(range(len(ships))))
            least = min(self.waiting_of(ships, order) for order in orders)
            first = min(order for order in orders if self.waiting_of(ships, order) == least)
            self.same(best_order(ships), (first, least))

    def test_no_feasible_plan_has_less_waiting(self):
        chance = random.Random(5)
        for _ in range(25):
            ships = some_ships(chance, 3, 3, 3) or [(0, 1, 2, 1)]
            plans = itertools.product(*[range(ship[2], 12) for ship in ships])
            least = min(sum(plan) for plan in plans if told_conflicts(ships, plan) == ((), ()))
            self.same(best_order(ships)[1], least - sum(ship[2] for ship in ships))

    def test_six_ships(self):
        ships = [(0, 2, 0, stay) for stay in (6, 5, 4, 3, 2, 1)]
        self.same(best_order(ships), ((5, 4, 3, 2, 1, 0), 1 + 3 + 6 + 10 + 15))
        self.same(best_order([(0, 2, 0, 1)] * 6), ((0, 1, 2, 3, 4, 5), 15))

    def test_one_ship(self):
        self.same(best_order([(3, 2, 7, 9)]), ((0,), 0))
