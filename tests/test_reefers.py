"""[K1] to [K4] and quaybest.reefers."""

import itertools
import random
from fractions import Fraction

from quaybest.reefers import (LeavesRange, NoBox, NoPlug, NotSo, Rack, TooManyStates, advance, cycle_divisor,
                              fewest_plugs, is_sustainable, longest_outage, longest_plan, plug_share, shortest_cycle,
                              simulate, sustainable_choices)
from support import Case

PAIR = [(1, 2, 0, 3, 0), (1, 2, 0, 3, 0)]


def some_boxes(chance, most, states):
    while True:
        found = []
        for _ in range(chance.randint(1, most)):
            low = chance.randint(-3, 1)
            high = low + chance.randint(0, 5)
            found.append((chance.randint(1, 3), chance.randint(1, 3), low, high, chance.randint(low, high)))
        if many_states(found) <= states:
            return found


def many_states(boxes):
    many = 1
    for _, _, low, high, _ in boxes:
        many *= high - low + 1
    return many


def told_choices(many, plugs):
    """By [K3]: a choice ahead of every longer one that begins with it."""
    return sorted(row for size in range(many + 1) for row in itertools.combinations(range(many), size)
                  if len(row) <= plugs)


def told_after(boxes, choice):
    """By [K1]."""
    found = []
    for number, (warm, cool, low, high, temperature) in enumerate(boxes):
        found.append((warm, cool, low, high, temperature - cool if number in choice else temperature + warm))
    return found


def told_out(boxes):
    return tuple(number for number, box in enumerate(boxes) if not box[2] <= box[4] <= box[3])


def told_temperatures(boxes):
    return tuple(box[4] for box in boxes)


def told_steps(boxes, plugs):
    """Pairs of a choice and the boxes behind it, in order, if none is out of range."""
    rows = [(choice, told_after(boxes, choice)) for choice in told_choices(len(boxes), plugs)]
    return [(choice, after) for choice, after in rows if not told_out(after)]


def told_hours(boxes, plugs):
    """The greatest number of hours of a plan that holds; None if it is not below the number of states."""
    most = many_states(boxes)
    level = {told_temperatures(boxes): boxes}
    for hours in range(most + 1):
        level = {told_temperatures(after): after for now in level.values() for _, after in told_steps(now, plugs)}
        if not level:
            return hours
    return None


def told_longest(boxes, plugs):
    """Of all plans of the greatest length the first one, hour by hour."""
    hours = told_hours(boxes, plugs)
    if hours is None:
        return None
    plans = [((), boxes)]
    for _ in range(hours):
        plans = [((*plan, choice), after) for plan, now in plans for choice, after in told_steps(now, plugs)]
    return min(plan for plan, _ in plans)


def told_cycle(boxes, plugs):
    """Of all plans, length by length, the first one that ends where it was before."""
    if told_hours(boxes, plugs) is not None:
        return None
    rows = [((), boxes, [told_temperatures(boxes)])]
    while True:
        longer = [((*plan, choice), after, [*seen, told_temperatures(after)])
                  for plan, now, seen in rows for choice, after in told_steps(now, plugs)]
        closed = [(plan, seen) for plan, _, seen in longer if seen[-1] in seen[:-1]]
        if closed:
            plan, seen = min(closed)
            ahead = seen.index(seen[-1])
            return plan[:ahead], plan[ahead:]
        rows = longer


def told_outage(boxes, plugs):
    if told_hours(boxes, plugs) is not None:
        return None
    best = hours = 0
    now = boxes
    while not told_out(now):
        if told_hours(now, plugs) is None:
            best = hours
        now, hours = told_after(now, ()), hours + 1
    return best


class HoursTest(Case):
    """[K1], [K2]: hours, and plans that are gone through."""

    def test_advance(self):
        boxes = [(1, 2, 0, 3, 2), (2, 1, -4, -1, -2), (1, 1, 5, 5, 5)]
        self.same(advance(boxes, ()), ((3, 0, 6), (1, 2)))
        self.same(advance(boxes, (0, 1)), ((0, -3, 6), (2,)))
        self.same(advance(boxes, (0, 1, 2)), ((0, -3, 4), (2,)))
        self.same(advance(PAIR, (0,)), ((-2, 1), (0,)))

    def test_box_at_its_limit(self):
        self.same(advance([(1, 2, 0, 3, 2)], ()), ((3,), ()))
        self.same(advance([(1, 2, 0, 3, 3)], ()), ((4,), (0,)))
        self.same(advance([(1, 2, 0, 3, 2)], (0,)), ((0,), ()))
        self.same(advance([(1, 2, 0, 3, 1)], (0,)), ((-1,), (0,)))

    def test_simulate(self):
        self.same(simulate(PAIR, []), (0, (0, 0), ()))
        self.same(simulate(PAIR, [(), ()]), (2, (2, 2), ()))
        self.same(simulate(PAIR, [(), (), (0,), (1,), ()]), (5, (2, 2), ()))
        self.same(simulate(PAIR, [(), (), (0,), (), (1,)]), (4, (1, 4), (1,)))
        self.same(simulate(PAIR, [(0, 1), ()]), (1, (-2, -2), (0, 1)))
        self.same(simulate(PAIR, [[], [], [0, 1]]), (3, (0, 0), ()))

    def test_random_plans(self):
        chance = random.Random(1)
        for _ in range(300):
            boxes = some_boxes(chance, 4, 10 ** 9)
            plan = [chance.choice(told_choices(len(boxes), 4)) for _ in range(chance.randint(0, 6))]
            after = told_after(boxes, (0,))
            self.same(advance(boxes, (0,)), (told_temperatures(after), told_out(after)))
            now, hours = boxes, 0
            while hours < len(plan) and not told_out(now):
                now, hours = told_after(now, plan[hours]), hours + 1
            self.same(simulate(boxes, plan), (hours, told_temperatures(now), told_out(now)))


class NumbersTest(Case):
    """Shares of plugs, and the divisor of cycles."""

    def test_shares(self):
        self.same(plug_share(PAIR), (2, 3))
        self.same(plug_share([(1, 1, 0, 0, 0)]), (1, 2))
        self.same(plug_share([(1, 1, 0, 0, 0)] * 4), (2, 1))
        self.same(plug_share([(3, 1, 0, 9, 5), (2, 4, 0, 9, 5), (5, 1, 0, 9, 5)]), (23, 12))

    def test_divisors(self):
        self.same(cycle_divisor(PAIR), 3)
        self.same(cycle_divisor([(2, 2, 0, 0, 0)]), 2)
        self.same(cycle_divisor([(2, 4, 0, 0, 0), (1, 3, 0, 0, 0)]), 12)
        self.same(cycle_divisor([(6, 4, 0, 0, 0), (1, 1, 0, 0, 0)]), 10)

    def test_random_boxes(self):
        chance = random.Random(2)
        for _ in range(200):
            boxes = [(chance.randint(1, 9), chance.randint(1, 9), 0, 5, 3) for _ in range(chance.randint(1, 4))]
            share = sum(Fraction(warm, warm + cool) for warm, cool, _, _, _ in boxes)
            self.same(plug_share(boxes), (share.numerator, share.denominator))
            self.same(cycle_divisor(boxes), next(n for n in itertools.count(1) if all(
                n * warm % (warm + cool) == 0 for warm, cool, _, _, _ in boxes)))


class ExampleTest(Case):
    """The example of the document."""

    def test_example(self):
        self.same(sustainable_choices(PAIR, 1), ((),))
        self.same(advance(PAIR, ()), ((1, 1), ()))
        self.same(simulate(PAIR, [(), ()])[1], (2, 2))
        self.same(sustainable_choices([(1, 2, 0, 3, 2)] * 2, 1), ((0,), (1,)))
        self.same(shortest_cycle(PAIR, 1), (((),), ((), (0,), (1,))))
        self.same(plug_share(PAIR), (2, 3))
        self.same(longest_outage(PAIR, 1), 2)
        self.same(is_sustainable(PAIR, 1), True)
        self.same(longest_plan(PAIR, 1), None)
        self.same(fewest_plugs(PAIR), 1)


class KeptTest(Case):
    """Boxes that are kept for ever, or not."""

    def test_no_plugs(self):
        self.same(is_sustainable(PAIR, 0), False)
        self.same(sustainable_choices(PAIR, 0), ())
        self.same(longest_plan(PAIR, 0), ((), (), ()))
        self.same(shortest_cycle(PAIR, 0), None)
        self.same(longest_outage(PAIR, 0), None)

    def test_hour_with_no_choice(self):
        stuck = [(1, 1, 0, 0, 0)]
        self.same(is_sustainable(stuck, 4), False)
        self.same(longest_plan(stuck, 1), ())
        self.same(fewest_plugs(stuck), None)
        self.same(sustainable_choices(stuck, 1), ())
        self.same(shortest_cycle(stuck, 1), None)
        self.same(longest_outage(stuck, 1), None)

    def test_box_at_its_limit(self):
        self.same(sustainable_choices([(1, 1, 0, 1, 1)], 1), ((0,),))
        self.same(sustainable_choices([(1, 1, 0, 1, 0)], 1), ((),))
        self.same(longest_outage([(1, 1, 0, 1, 1)], 1), 0)
        self.same(longest_outage([(1, 1, 0, 1, 0)], 1), 1)
        self.same(shortest_cycle([(1, 1, 0, 1, 1)], 1), ((), ((0,), ())))

    def test_more_plugs_than_boxes(self):
        self.same(is_sustainable(PAIR, 9), True)
        self.same(sustainable_choices([(1, 2, 0, 3, 3)] * 2, 9), ((0, 1),))
        self.same(sustainable_choices(PAIR, 9), ((),))
        self.same(sustainable_choices([(1, 2, 0, 3, 2)] * 2, 9), ((), (0,), (0, 1), (1,)))

    def test_fewest_plugs(self):
        self.same(fewest_plugs([(1, 1, 0, 1, 0), (1, 1, 0, 1, 0)]), 2)
        self.same(fewest_plugs([(1, 1, 0, 1, 0), (1, 1, 0, 1, 1)]), 1)
        self.same(fewest_plugs([(1, 1, 0, 2, 0), (1, 1, 0, 1, 0)]), 1)
        self.same(fewest_plugs([(1, 1, 0, 2, 1), (1, 1, 0, 1, 0)]), 1)
        self.same(fewest_plugs([(1, 9, 0, 100, 0)]), 1)

    def test_outage_that_is_over_before_the_range_is(self):
        # With 1 degree more both boxes would have to be plugged in at once.
        self.same(longest_outage([(1, 1, 0, 5, 0), (1, 1, 0, 4, 0)], 1), 4)
        self.same(told_outage([(1, 1, 0, 5, 0), (1, 1, 0, 4, 0)], 1), 4)
        self.same(longest_outage([(1, 1, 0, 4, 0), (1, 1, 0, 4, 0)], 1), 3)

    def test_random_boxes(self):
        chance = random.Random(3)
        kinds = {}
        for _ in range(250):
            boxes = some_boxes(chance, 3, 70)
            for plugs in range(len(boxes) + 1):
                hours = told_hours(boxes, plugs)
                kinds[hours] = True
                self.same(is_sustainable(boxes, plugs), hours is None)
                self.same(sustainable_choices(boxes, plugs), tuple(
                    choice for choice, after in told_steps(boxes, plugs) if told_hours(after, plugs) is None))
                self.same(longest_outage(boxes, plugs), told_outage(boxes, plugs))
                self.same(Rack(boxes, plugs).hours_left(), hours)
                if hours is None or hours < 7:
                    self.same(longest_plan(boxes, plugs), told_longest(boxes, plugs))
            kept = [plugs for plugs in range(len(boxes) + 1) if told_hours(boxes, plugs) is None]
            self.same(fewest_plugs(boxes), min(kept, default=None))
        self.assertGreater(len(kinds), 6)

    def test_random_cycles(self):
        chance = random.Random(4)
        lengths = {}
        for _ in range(250):
            boxes = some_boxes(chance, 3, 40)
            for plugs in range(len(boxes) + 1):
                wanted = told_cycle(boxes, plugs)
                lengths[wanted and (len(wanted[0]), len(wanted[1]))] = True
                self.same(shortest_cycle(boxes, plugs), wanted)
        self.assertGreater(len(lengths), 7)

    def test_two_hours_ahead_of_a_cycle(self):
        boxes = [(3, 2, -1, 3, 1), (1, 2, 1, 6, 1)]
        wanted = (((0,), ()), ((0,), (1,), (0,), (0,), (), (0,), (1,), (0,), (0,), (1,), (0,), (1,), (0,), (0,), (1,)))
        self.same(told_cycle(boxes, 1), wanted)
        self.same(shortest_cycle(boxes, 1), wanted)

    def test_ways_back_of_several_lengths(self):
        for boxes, wanted in (([(1, 1, 0, 2, 0), (1, 1, -3, -1, -3), (1, 1, -3, 2, -2)], ((), ((2,), (0, 1)))),
                              ([(1, 1, -1, 3, 0), (3, 1, 1, 4, 1), (1, 1, 0, 2, 1)],
                               ((), ((0,), (1, 2), (0, 1), (1, 2))))):
            self.same(told_cycle(boxes, 2), wanted)
            self.same(shortest_cycle(boxes, 2), wanted)

    def test_four_boxes(self):
        boxes = [(1, 3, 0, 3, 0), (1, 3, 0, 3, 1), (1, 2, 0, 2, 0), (1, 2, 0, 2, 1)]
        for plugs in range(5):
            self.same(shortest_cycle(boxes, plugs), told_cycle(boxes, plugs))
            self.same(longest_plan(boxes, plugs), told_longest(boxes, plugs))


class StatesTest(Case):
    """[K4]: too many states."""

    def test_a_thousand_states(self):
        for boxes in ([(1, 1, 0, 999, 0)], [(1, 1, -5, 4, 0)] * 3, [(1, 2, 0, 24, 0), (1, 2, 1, 40, 3)]):
            self.same(is_sustainable(boxes, 2), True)
            self.same(longest_plan(boxes, 2), None)
            self.same(fewest_plugs(boxes) in (1, 2), True)
            self.same(sustainable_choices(boxes, 2)[0], ())
            self.assertGreater(longest_outage(boxes, 2), 0)
            self.same(Rack(boxes, 2).hours_left(), None)

    def test_a_state_more(self):
        calls = [lambda boxes: is_sustainable(boxes, 0), lambda boxes: sustainable_choices(boxes, 0),
                 lambda boxes: longest_plan(boxes, 0), fewest_plugs, lambda boxes: longest_outage(boxes, 0),
                 lambda boxes: Rack(boxes, 0), lambda boxes: shortest_cycle(boxes, 0)]
        for boxes in ([(1, 1, 0, 1000, 0)], [(1, 1, 1, 7, 1), (1, 1, 1, 11, 1), (1, 1, 1, 13, 1)]):
            for call in calls:
                self.refused(TooManyStates, call, boxes)
        self.same(advance([(1, 1, 0, 1000, 0)], ()), ((1,), ()))
        self.same(simulate([(1, 1, 0, 5000, 0)] * 4, [()]), (1, (1, 1, 1, 1), ()))
        self.same(plug_share([(1, 1, 0, 5000, 0)] * 4), (2, 1))
        self.same(cycle_divisor([(1, 1, 0, 5000, 0)] * 4), 2)

    def test_states_of_shortest_cycles(self):
        self.same(shortest_cycle([(1, 1, 0, 199, 0)], 1), ((), ((), (0,))))
        self.same(shortest_cycle([(1, 1, 0, 9, 0), (1, 2, 0, 19, 0)], 0), None)
        for plugs in (0, 1):
            self.refused(TooManyStates, shortest_cycle, [(1, 1, 0, 200, 0)], plugs)
            self.refused(TooManyStates, shortest_cycle, [(1, 1, 0, 2, 0), (1, 1, 0, 66, 0)], plugs)

    def test_cycles_of_two_hundred_states(self):
        boxes = [(1, 7, 0, 7, 0), (1, 2, 0, 4, 0), (1, 2, 0, 4, 0)]
        self.same(many_states(boxes), 200)
        found = shortest_cycle(boxes, 1)
        hours, temperatures, out = simulate(boxes, found[0] + found[1])
        self.same((hours, out), (len(found[0] + found[1]), ()))
        self.same(temperatures, simulate(boxes, found[0])[1])


class RackTest(Case):
    """Boxes that are plugged in and out."""

    def test_plugs(self):
        rack = Rack([list(box) for box in PAIR * 2], 3)
        self.same(rack.plugged(), ())
        self.same(rack.boxes(), tuple(PAIR * 2))
        self.same(rack.plug(2), None)
        self.same(rack.plug(0), None)
        self.same(rack.plugged(), (0, 2))
        self.same(rack.plug(1), None)
        self.same(rack.plugged(), (0, 1, 2))
        self.same(rack.unplug(0), None)
        self.same(rack.plugged(), (1, 2))

    def test_errors(self):
        rack = Rack(PAIR, 1)
        for number in (-1, 2):
            self.refused(NoBox, rack.plug, number)
            self.refused(NoBox, rack.unplug, number)
        self.refused(NotSo, rack.unplug, 0)
        rack.plug(1)
        self.refused(NotSo, rack.plug, 1)
        self.refused(NoPlug, rack.plug, 0)
        self.refused(NoBox, rack.plug, 2)
        self.refused(NotSo, rack.unplug, 0)
        self.same(rack.plugged(), (1,))
        self.refused(NoPlug, Rack(PAIR, 0).plug, 0)

    def test_advance(self):
        rack = Rack(PAIR, 1)
        self.same(rack.advance(), (1, 1))
        self.same(rack.advance(), (2, 2))
        rack.plug(0)
        self.same(rack.advance(), (0, 3))
        self.same(rack.boxes(), ((1, 2, 0, 3, 0), (1, 2, 0, 3, 3)))
        self.refused(LeavesRange, rack.advance, told={"box": 0})
        rack.unplug(0)
        self.refused(LeavesRange, rack.advance, told={"box": 1})
        self.same(rack.boxes(), ((1, 2, 0, 3, 0), (1, 2, 0, 3, 3)))
        rack.plug(1)
        self.same(rack.advance(), (1, 1))
        self.same(rack.plugged(), (1,))

    def test_hours_left(self):
        self.same(Rack(PAIR, 1).hours_left(), None)
        rack = Rack(PAIR, 0)
        self.same([rack.hours_left()] + [rack.advance() and rack.hours_left() for _ in range(3)], [3, 2, 1, 0])
        rack = Rack(PAIR, 1)
        for _ in range(3):
            rack.advance()
        self.same(rack.hours_left(), 0)
        rack.plug(0)
        self.same(rack.hours_left(), 0)

    def test_whichever_boxes_are_plugged_in(self):
        rack = Rack([(1, 2, 0, 3, 0)], 1)
        rack.plug(0)
        self.same(rack.hours_left(), None)
        self.refused(LeavesRange, rack.advance, told={"box": 0})
