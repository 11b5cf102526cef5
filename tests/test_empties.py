"""[P1] to [P5] and quaybest.empties."""

import itertools
import random

from quaybest.empties import (AllUsed, BadFlows, BadLegs, BadSurplus, cost, cost_slack, flows_with_first, is_balanced,
                              optimal_flows, optimal_range, potentials, to_moves)
from support import Case, listed

LEGS = ((3, 5), (2, 2), (4, 1))
SURPLUS = (3, -2, -1)
# Functions that take legs and a surplus.
BOTH = (optimal_flows, optimal_range, potentials, lambda legs, surplus: cost_slack(legs, surplus, 0))


def some_ring(chance, most=5, size=4, dear=6):
    """Legs and a surplus."""
    many = chance.randint(2, most)
    legs = [(chance.randint(1, dear), chance.randint(1, dear)) for _ in range(many)]
    surplus = [chance.randint(-size, size) for _ in range(many - 1)]
    return legs, [*surplus, -sum(surplus)]


def told_cost(legs, flows):
    return sum(flow * leg[0] if flow > 0 else -flow * leg[1] for leg, flow in zip(legs, flows))


def told_excess(flows):
    return [flows[port] - flows[(port - 1) % len(flows)] for port in range(len(flows))]


def all_flows(surplus, reach=40):
    """The flows that balance a surplus, with first ones from -reach to reach."""
    for first in range(-reach, reach + 1):
        flows = [first]
        for number in surplus[1:]:
            flows.append(flows[-1] + number)
        yield tuple(flows)


def told_optimal(legs, surplus):
    """By [P3]: the first of the cheapest of all flows, which are told by ascending first ones."""
    best = min(all_flows(surplus), key=lambda flows: told_cost(legs, flows))
    return told_cost(legs, best), best


def told_potentials(legs, flows):
    """By the words of the interface."""
    steps = []
    for (forward, backward), flow in zip(legs, flows):
        steps.append(forward if flow > 0 else -backward)
    for leg, flow in enumerate(flows):
        while flow == 0 and sum(steps) < 0 and steps[leg] < legs[leg][0]:
            steps[leg] += 1
    assert sum(steps) == 0
    return tuple(sum(steps[:port]) for port in range(len(steps)))


def told_moves(flows):
    """By [P5], step by step."""
    flows = list(flows)
    many = len(flows)
    moves = []
    while any(flows):
        excess = told_excess(flows)
        start = next(port for port in range(many) if excess[port] > 0)
        forward = flows[start] > 0
        way = [start if forward else (start - 1) % many]
        port = (start + (1 if forward else -1)) % many
        while excess[port] >= 0:
            way.append(port if forward else (port - 1) % many)
            port = (port + (1 if forward else -1)) % many
        count = min(excess[start], -excess[port], abs(flows[way[0]]))
        for leg in way:
            flows[leg] -= count if forward else -count
        moves.append((start, "forward" if forward else "backward", port, count))
    return tuple(moves)


class FlowsTest(Case):
    """[P2]: flows that balance a surplus, and their costs."""

    def test_balanced(self):
        for flows in all_flows(SURPLUS, 3):
            self.same(is_balanced(SURPLUS, flows), True)
            self.same(flows_with_first(SURPLUS, flows[0]), flows)
            self.same(is_balanced(listed(SURPLUS), list(flows)), True)
            for leg in range(3):
                wrong = list(flows)
                wrong[leg] += 1
                self.same(is_balanced(SURPLUS, wrong), False)

    def test_all_small_flows(self):
        for flows in itertools.product(range(-2, 3), repeat=3):
            for surplus in ((0, 0, 0), (1, -1, 0), (2, 0, -2)):
                self.same(is_balanced(surplus, flows), told_excess(flows) == list(surplus))

    def test_costs(self):
        self.same(cost(LEGS, (1, -2, 0)), 7)
        self.same(cost(listed(LEGS), [0, 2, -3]), 7)
        self.same(cost(LEGS, (0, 0, 0)), 0)
        self.same(cost(((1, 50), (50, 1)), (1000, -1000)), 2000)
        for flows in itertools.product(range(-2, 3), repeat=3):
            self.same(cost(LEGS, flows), told_cost(LEGS, flows))

    def test_2_and_24_ports(self):
        self.same(flows_with_first((1000, -1000), 5), (5, -995))
        self.same(flows_with_first([-1000, 1000] * 12, 0), tuple([0, 1000] * 12))
        self.same(cost(((50, 1),) * 24, (1,) * 24), 1200)


class OptimalTest(Case):
    """[P3]: optimal flows."""

    def test_flows(self):
        # (2, 0, -1) and (1, -1, -2) cost 7, too.
        self.same(optimal_flows(LEGS, SURPLUS), (7, (0, -2, -3)))
        self.same(optimal_flows(listed(LEGS), listed(SURPLUS)), (7, (0, -2, -3)))
        self.same(optimal_range(LEGS, SURPLUS), (0, 2))
        self.same(optimal_flows(((2, 5), (2, 2), (4, 1)), SURPLUS), (5, (2, 0, -1)))
        self.same(optimal_range(((2, 5), (2, 2), (4, 1)), SURPLUS), (2, 2))

    def test_a_surplus_of_zeros(self):
        for many in (2, 5, 24):
            self.same(optimal_flows(((1, 1),) * many, (0,) * many), (0, (0,) * many))
            self.same(optimal_range(((1, 50),) * many, (0,) * many), (0, 0))

    def test_costs_that_are_the_same_both_ways_round(self):
        # One empty from port 0 to port 1 of two: forward over leg 0, or backward over leg 1.
        self.same(optimal_flows(((3, 1), (9, 3)), (5, -5)), (15, (0, -5)))
        self.same(optimal_range(((3, 1), (9, 3)), (5, -5)), (0, 5))
        self.same(optimal_flows(((3, 1), (9, 2)), (5, -5)), (10, (0, -5)))
        self.same(optimal_flows(((2, 1), (9, 3)), (5, -5)), (10, (5, 0)))
        self.same(optimal_range(((2, 1), (9, 3)), (5, -5)), (5, 5))

    def test_random_rings(self):
        chance = random.Random(1)
        wide = 0
        for _ in range(600):
            legs, surplus = some_ring(chance, 5, 3, chance.choice((2, 6)))
            if abs(surplus[-1]) > 12:
                continue
            least, flows = told_optimal(legs, surplus)
            self.same(optimal_flows(legs, surplus), (least, flows))
            firsts = [row[0] for row in all_flows(surplus) if told_cost(legs, row) == least]
            self.same(optimal_range(legs, surplus), (firsts[0], firsts[-1]))
            wide += firsts[0] < firsts[-1]
        self.assertGreater(wide, 20)

    def test_great_numbers(self):
        chance = random.Random(2)
        for _ in range(20):
            many = chance.choice((2, 23, 24))
            legs = [(chance.randint(1, 50), chance.randint(1, 50)) for _ in range(many)]
            surplus = [0] * many
            for _ in range(200):
                start, stop = chance.randrange(many), chance.randrange(many)
                count = min(50, 1000 - surplus[start], 1000 + surplus[stop])
                surplus[start] += count
                surplus[stop] -= count
            least, flows = optimal_flows(legs, surplus)
            self.same((is_balanced(surplus, flows), cost(legs, flows)), (True, least))
            for by in (-5000, -7, -1, 1, 7, 5000):
                other = flows_with_first(surplus, flows[0] + by)
                self.assertGreaterEqual(cost(legs, other), least + (by < 0))
            self.same(-sum(a * b for a, b in zip(surplus, potentials(legs, surplus))), least)


class PotentialsTest(Case):
    """[P4]: potentials."""

    def test_potentials(self):
        self.same(potentials(LEGS, SURPLUS), (0, 3, 1))
        self.same(potentials(((2, 5), (2, 2), (4, 1)), SURPLUS), (0, 2, 1))
        self.same(potentials(((1, 2), (3, 4)), (0, 0)), (0, 1))
        self.same(potentials(((1, 5), (5, 1), (2, 2)), (0, 0, 0)), (0, 1, 2))
        self.same(potentials(((1, 5), (5, 1), (5, 2)), (0, 0, 0)), (0, 1, 2))

    def test_random_rings(self):
        chance = random.Random(3)
        for _ in range(500):
            legs, surplus = some_ring(chance)
            least, flows = optimal_flows(legs, surplus)
            found = potentials(legs, surplus)
            self.same(found, told_potentials(legs, flows))
            self.same(found[0], 0)
            for leg, (forward, backward) in enumerate(legs):
                step = found[(leg + 1) % len(legs)] - found[leg]
                self.assertTrue(-backward <= step <= forward)
            self.assertEqual(-sum(number * height for number, height in zip(surplus, found)), least)


class SlackTest(Case):
    """How much dearer a leg can be."""

    def test_slack(self):
        self.same([cost_slack(LEGS, SURPLUS, leg) for leg in range(3)], self.told(LEGS, SURPLUS))
        self.same(cost_slack(((3, 1), (9, 3)), (5, -5), 0), None)
        # Over leg 1 backward at a cost of 3 it is as cheap as over leg 0, and the flow of leg 0 is to be the least.
        self.same(cost_slack(((3, 1), (9, 3)), (5, -5), 1), 0)
        self.same(cost_slack(((2, 1), (9, 3)), (5, -5), 0), 0)
        self.same(cost_slack(((2, 1), (9, 50)), (5, -5), 0), 47)
        self.same(cost_slack(((50, 1), (9, 1)), (5, -5), 1), 49)

    def test_random_rings(self):
        chance = random.Random(4)
        kinds = set()
        for _ in range(150):
            legs, surplus = some_ring(chance, 4, 3, chance.choice((2, 5)))
            wanted = self.told(legs, surplus)
            kinds |= set(wanted)
            self.same([cost_slack(legs, surplus, leg) for leg in range(len(legs))], wanted)
        self.assertGreater(len(kinds), 8)

    def told(self, legs, surplus):
        """By trying costs, one more at a time."""
        flows = told_optimal(legs, surplus)[1]
        found = []
        for leg, flow in enumerate(flows):
            more = 0
            while flow and told_optimal(self.dearer(legs, leg, flow, more + 1), surplus)[1] == flows:
                more += 1
            found.append(more if flow else None)
        return found

    def dearer(self, legs, leg, flow, by):
        rows = [list(row) for row in legs]
        rows[leg][0 if flow > 0 else 1] += by
        return rows


class MovesTest(Case):
    """[P5]: moves."""

    def test_moves(self):
        self.same(to_moves((2, 0, -1)), ((0, "forward", 1, 2), (0, "backward", 2, 1)))
        self.same(to_moves([0, 0]), ())
        self.same(to_moves((0, 3, 3, -2, 0)), ((1, "forward", 3, 3), (4, "backward", 3, 2)))
        # On its way the first move passes a port that has too many itself.
        self.same(to_moves((2, 5, 0)), ((0, "forward", 2, 2), (1, "forward", 2, 3)))
        self.same(to_moves((0, -4, -1)), ((0, "backward", 1, 1), (2, "backward", 1, 3)))
        self.same(to_moves((5, 2, 0)), ((0, "forward", 1, 3), (0, "forward", 2, 2)))
        self.same(to_moves((0, 7)), ((1, "forward", 0, 7),))
        self.same(to_moves((-7, 0)), ((1, "backward", 0, 7),))

    def test_all_small_flows(self):
        for many in (2, 3, 4, 5):
            for flows in itertools.product(range(-2, 3), repeat=many):
                if 0 not in flows:
                    self.refused(AllUsed, to_moves, flows)
                    continue
                moves = to_moves(flows)
                self.same(moves, told_moves(flows))
                self.assertEqual(self.summed(moves, many), list(flows))

    def summed(self, moves, many):
        """The flows that moves make together."""
        flows = [0] * many
        for start, direction, stop, count in moves:
            port = start
            while port != stop:
                leg = port if direction == "forward" else (port - 1) % many
                flows[leg] += count if direction == "forward" else -count
                port = (port + (1 if direction == "forward" else -1)) % many
        return flows

    def test_errors(self):
        for flows in ((), (0,), (1,), (0,) * 25, (1,) * 25):
            self.refused(BadFlows, to_moves, flows)
        for flows in ((1, 1), (1, -1), (3,) * 24):
            self.refused(AllUsed, to_moves, flows)
        self.same(to_moves((0,) * 24), ())


class ErrorsTest(Case):
    """Wrong legs, surpluses and flows."""

    def test_legs(self):
        wrong = [((), None), (((1, 1),), None), (((1, 1),) * 25, None), (((0, 1), (1, 1)), 0), (((1, 1), (1, 51)), 1),
                 (((1, 1), (51, 1), (0, 0)), 1), (((50, 1), (1, 50), (1, 0)), 2), (((1, 1), (-1, 1)), 1)]
        for legs, number in wrong:
            for form in (tuple, list, listed):
                for call in BOTH:
                    for surplus in ((0,) * len(legs), (), (1, 2), (2000, -2000)):
                        self.refused(BadLegs, call, form(legs), surplus, told={"number": number})
                for flows in ((0,) * len(legs), (), (1, 2, 3, 4)):
                    self.refused(BadLegs, cost, form(legs), flows, told={"number": number})

    def test_surpluses(self):
        wrong = [((), None), ((0,), None), ((0,) * 25, None), ((1001, -1001), 0), ((0, 1000, -1001), 2), ((0, 1), None),
                 ((1, 1, -1), None), ((5, -1001, 3), 1), ((-1001, 1001, 0), 0)]
        for surplus, port in wrong:
            for call in (lambda it: is_balanced(it, ()), lambda it: is_balanced(it, (0,) * len(it)),
                         lambda it: flows_with_first(it, 3)):
                self.refused(BadSurplus, call, surplus, told={"port": port})
            for call in BOTH:
                for many in (2, 3, 4):
                    self.refused(BadSurplus, call, ((1, 1),) * many, list(surplus), told={"port": port})

    def test_another_number_of_ports_than_of_legs(self):
        for call in BOTH:
            self.refused(BadSurplus, call, LEGS, (1, -1), told={"port": None})
            self.refused(BadSurplus, call, LEGS, (1, -1, 0, 0), told={"port": None})
            self.refused(BadSurplus, call, LEGS, (1, -1001), told={"port": 1})

    def test_flows(self):
        for flows in ((), (1, 2), (1, 2, 3, 4)):
            self.refused(BadFlows, cost, LEGS, flows)
            self.refused(BadFlows, is_balanced, SURPLUS, flows)
