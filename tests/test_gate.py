"""[L1] to [L5] and quaybest.gate."""

import itertools
import random

from quaybest.gate import (Full, Gate, NoSlot, NoTruck, Past, TooMany, extra_capacity, first_excess, lanes, largest_set,
                           occupancy, possible_slots, schedule, spare_quotas)
from support import Case


def some_quotas(chance, most):
    return [chance.choice((0, 1, 1, 2)) for _ in range(chance.randint(1, most))]


def some_trucks(chance, quotas, most):
    return [tuple(sorted(chance.randrange(len(quotas)) for _ in range(2))) for _ in range(chance.randint(0, most))]


def all_schedules(quotas, trucks):
    """Every schedule, by [L1]."""
    for slots in itertools.product(*[range(start, stop + 1) for start, stop in trucks]):
        if all(slots.count(slot) <= quota for slot, quota in enumerate(quotas)):
            yield slots


def has_schedule(quotas, trucks):
    return next(all_schedules(quotas, trucks), None) is not None


def told_excess(quotas, trucks, slot=0):
    """By [L2]."""
    for start in range(slot, len(quotas)):
        for stop in range(start, len(quotas)):
            required = sum(start <= window[0] and window[1] <= stop for window in trucks)
            if required > sum(quotas[start:stop + 1]):
                return start, stop, required, sum(quotas[start:stop + 1])
    return None


def told_schedule(quotas, trucks):
    """By [L3], slot by slot; None where no schedule is among all."""
    if not has_schedule(quotas, trucks):
        return None
    slots = [None] * len(trucks)
    for slot, quota in enumerate(quotas):
        for _ in range(quota):
            waiting = [k for k in range(len(trucks)) if slots[k] is None and trucks[k][0] <= slot]
            if waiting:
                slots[min(waiting, key=lambda k: (trucks[k][1], k))] = slot
    return tuple(slots)


class ScheduleTest(Case):
    """[L1] to [L3]: schedules and intervals."""

    def test_schedules(self):
        self.same(schedule([1, 1], [(0, 1), (0, 0)]), (1, 0))
        self.same(schedule([2, 1], [(0, 1), (0, 1), (0, 1)]), (0, 0, 1))
        self.same(schedule([1, 1, 1], [(0, 2), (1, 1), (0, 2)]), (0, 1, 2))
        self.same(schedule([0, 3], [(0, 1), (0, 1), (1, 1)]), (1, 1, 1))
        self.same(schedule([3, 3], []), ())

    def test_one_slot_and_quotas_of_0(self):
        self.same(schedule([1], [(0, 0)]), (0,))
        self.same(schedule([1], [(0, 0)] * 2), None)
        self.same(schedule([0], []), ())
        self.same(schedule([0], [(0, 0)]), None)
        self.same(first_excess([0], [(0, 0)]), (0, 0, 1, 0))
        self.same(first_excess([0], []), None)
        self.same(schedule([0, 0, 1], [(0, 2)]), (2,))

    def test_first_excess(self):
        self.same(first_excess([1, 1, 0, 1], [(1, 2), (1, 2), (0, 3), (2, 3), (2, 2)]), (0, 2, 3, 2))
        self.same(first_excess([1, 0, 5], [(1, 1), (0, 0), (0, 0)]), (0, 0, 2, 1))
        self.same(first_excess([1, 1, 5], [(0, 1), (0, 1), (0, 1)]), (0, 1, 3, 2))
        self.same(first_excess([5, 1, 1], [(1, 2), (1, 2), (1, 2)]), (1, 2, 3, 2))
        self.same(first_excess([1, 1, 1], [(0, 2)] * 3), None)

    def test_random_trucks(self):
        chance = random.Random(1)
        kinds = {}
        for _ in range(700):
            quotas = some_quotas(chance, 5)
            trucks = some_trucks(chance, quotas, 5)
            excess = told_excess(quotas, trucks)
            kinds[excess] = True
            self.same(first_excess(quotas, trucks), excess)
            self.same(schedule(quotas, trucks), told_schedule(quotas, trucks))
            self.assertEqual(excess is None, has_schedule(quotas, trucks))
        self.assertGreater(len(kinds), 20)

    def test_no_schedule_has_more_trucks_ahead(self):
        chance = random.Random(2)
        for _ in range(200):
            quotas = some_quotas(chance, 4)
            trucks = some_trucks(chance, quotas, 4)
            for slots in all_schedules(quotas, trucks):
                for slot in range(len(quotas) + 1):
                    found = schedule(quotas, trucks)
                    self.assertLessEqual(sum(k < slot for k in slots), sum(k < slot for k in found))

    def test_forty_slots(self):
        trucks = [(k % 40, 39) for k in range(120)]
        found = schedule([3] * 40, trucks)
        self.same(sorted(found), sorted([k for k in range(40)] * 3))
        self.same(schedule([3] * 40, [*trucks, (0, 39)]), None)
        self.same(first_excess([3] * 40, [*trucks, (0, 39)]), (0, 39, 121, 120))


class SetsTest(Case):
    """Possible slots, largest sets, and what is spare."""

    def test_possible_slots(self):
        self.same(possible_slots([1, 1], [(0, 1), (0, 0)], 0), (1,))
        self.same(possible_slots([1, 1], [(0, 1), (0, 1)], 0), (0, 1))
        self.same(possible_slots([1, 0, 1], [(0, 2)], 0), (0, 2))
        self.same(possible_slots([1], [(0, 0), (0, 0)], 1), ())
        self.same(possible_slots([1, 1], [(0, 1), (0, 0), (0, 0)], 0), ())

    def test_largest_sets(self):
        self.same(largest_set([1], []), ())
        self.same(largest_set([0], [(0, 0)]), ())
        self.same(largest_set([1], [(0, 0), (0, 0)]), (0,))
        self.same(largest_set([1, 1], [(0, 0), (0, 0), (0, 1), (1, 1)]), (0, 2))
        self.same(largest_set([1, 1], [(0, 1), (0, 0), (1, 1)]), (0, 1))

    def test_extra_capacity(self):
        self.same(extra_capacity([2, 1], [], (0, 0)), 2)
        self.same(extra_capacity([2, 1], [(0, 1)], (0, 1)), 2)
        self.same(extra_capacity([2, 1], [(0, 1)], (1, 1)), 1)
        self.same(extra_capacity([2, 1], [(0, 0), (0, 1)], (0, 0)), 1)
        self.same(extra_capacity([1], [(0, 0)], (0, 0)), 0)
        self.same(extra_capacity([1, 9], [(0, 0), (0, 0)], (1, 1)), None)
        self.same(extra_capacity([0, 3, 0], [], (0, 2)), 3)

    def test_spare_quotas(self):
        self.same(spare_quotas([2, 0, 1], []), (2, 0, 1))
        self.same(spare_quotas([2, 1], [(0, 1)]), (2, 1))
        self.same(spare_quotas([2, 1], [(0, 0), (0, 1)]), (1, 1))
        self.same(spare_quotas([2, 1], [(0, 0), (1, 1)]), (1, 0))
        self.same(spare_quotas([1], [(0, 0)] * 2), None)

    def test_random_trucks(self):
        chance = random.Random(3)
        for _ in range(250):
            quotas = some_quotas(chance, 4)
            trucks = some_trucks(chance, quotas, 5)
            found = list(all_schedules(quotas, trucks))
            for truck in range(len(trucks)):
                self.same(possible_slots(quotas, trucks, truck), tuple(sorted({slots[truck] for slots in found})))
            rows = [row for many in range(len(trucks) + 1) for row in itertools.combinations(range(len(trucks)), many)
                    if has_schedule(quotas, [trucks[k] for k in row])]
            self.same(largest_set(quotas, trucks), min(rows, key=lambda row: (-len(row), row)))

    def test_random_capacities(self):
        chance = random.Random(4)
        kinds = {}
        for _ in range(250):
            quotas = some_quotas(chance, 4)
            trucks = some_trucks(chance, quotas, 3)
            window = tuple(sorted(chance.randrange(len(quotas)) for _ in range(2)))
            fitting = [many for many in range(sum(quotas) + 1) if told_excess(quotas, trucks + [window] * many) is None]
            kinds[max(fitting, default=None)] = True
            self.same(extra_capacity(quotas, trucks, window), max(fitting, default=None))
            spare = []
            for slot, quota in enumerate(quotas):
                less = [by for by in range(quota + 1)
                        if has_schedule(quotas[:slot] + [quota - by] + quotas[slot + 1:], trucks)]
                spare.append(max(less, default=None))
            self.same(spare_quotas(quotas, trucks), None if None in spare else tuple(spare))
        self.assertGreater(len(kinds), 4)


class StaysTest(Case):
    """[L4]: stays and lanes."""

    def test_occupancy(self):
        self.same(occupancy([]), ())
        self.same(occupancy([(0, 0)]), ((0, 1), (1, 0)))
        self.same(occupancy([(3, 5), (5, 7)]), ((3, 1), (5, 2), (6, 1), (8, 0)))
        self.same(occupancy([(3, 5), (6, 7)]), ((3, 1), (8, 0)))
        self.same(occupancy([(5, 7), (3, 5), (3, 5)]), ((3, 2), (5, 3), (6, 1), (8, 0)))
        self.same(occupancy([(3, 5), (6, 7), (6, 6)]), ((3, 1), (6, 2), (7, 1), (8, 0)))

    def test_lanes(self):
        self.same(lanes([]), ())
        self.same(lanes([(3, 5), (5, 7)]), (0, 1))
        self.same(lanes([(3, 5), (6, 7)]), (0, 0))
        self.same(lanes([(5, 7), (3, 5)]), (1, 0))
        self.same(lanes([(4, 4)] * 3), (0, 1, 2))
        self.same(lanes([(0, 9), (1, 2), (3, 4), (3, 8), (5, 6)]), (0, 1, 1, 2, 1))
        self.same(lanes([(0, 2), (1, 9), (3, 3), (3, 4)]), (0, 1, 0, 2))

    def told_lanes(self, stays):
        found = {}
        for number in sorted(range(len(stays)), key=lambda k: (stays[k][0], k)):
            taken = {lane for other, lane in found.items()
                     if stays[other][0] <= stays[number][1] and stays[number][0] <= stays[other][1]}
            found[number] = next(lane for lane in itertools.count() if lane not in taken)
        return tuple(found[number] for number in range(len(stays)))

    def test_random_stays(self):
        chance = random.Random(5)
        for _ in range(400):
            stays = []
            for _ in range(chance.randint(0, 8)):
                first = chance.randint(0, 15)
                stays.append((first, first + chance.choice((0, 1, 2, 6))))
            numbers = [sum(first <= minute <= last for first, last in stays) for minute in range(-1, 30)]
            self.same(occupancy(stays), tuple((minute, numbers[minute + 1]) for minute in range(29)
                                              if numbers[minute + 1] != numbers[minute]))
            self.same(lanes(stays), self.told_lanes(stays))
            self.assertEqual(max(lanes(stays), default=-1) + 1, max(numbers))


def state(gate):
    return gate.slot, gate.quotas(), gate.waiting(), gate.calls()


class BookTest(Case):
    """[L5]: trucks that are booked and cancelled."""

    def test_new_gate(self):
        quotas = [2, 0]
        gate = Gate(quotas)
        quotas[0] = 9
        self.same(state(gate), (0, (2, 0), (), ()))

    def test_book(self):
        gate = Gate([1, 1, 1])
        self.same(gate.book(0, 2), 0)
        self.same(gate.book(0, 0), 1)
        self.same(gate.waiting(), ((0, 0, 2, 1), (1, 0, 0, 0)))
        self.same(gate.window(0), (0, 2))
        self.same(gate.window(1), (0, 0))

    def test_windows_that_are_none(self):
        gate = Gate([9, 9, 9])
        for start, stop in ((-1, 1), (0, 3), (2, 1), (3, 3), (-2, -1)):
            self.refused(NoSlot, gate.book, start, stop)
        self.same(gate.book(2, 2), 0)
        self.same(gate.book(0, 2), 1)

    def test_past(self):
        gate = Gate([1, 1, 1])
        gate.advance()
        gate.advance()
        self.refused(Past, gate.book, 0, 1)
        self.refused(Past, gate.book, 1, 1)
        self.refused(NoSlot, gate.book, 0, 3)
        self.same(gate.book(0, 2), 0)
        self.same(gate.waiting(), ((0, 0, 2, 2),))
        self.refused(Full, gate.book, 1, 2, told={"start": 2, "stop": 2})
        gate.advance()
        self.refused(Past, gate.book, 2, 2)

    def test_full(self):
        gate = Gate([1, 0, 1])
        gate.book(0, 1)
        self.refused(Full, gate.book, 0, 0, told={"start": 0, "stop": 1})
        self.refused(Full, gate.book, 1, 1, told={"start": 0, "stop": 1})
        gate.book(1, 2)
        self.refused(Full, gate.book, 1, 2, told={"start": 0, "stop": 2})
        self.refused(Full, Gate([1, 0, 1]).book, 1, 1, told={"start": 1, "stop": 1})
        self.same(len(gate.waiting()), 2)

    def test_many_trucks(self):
        gate = Gate([200, 0])
        self.assertEqual([gate.book(0, 0) for _ in range(120)], list(range(120)))
        self.refused(TooMany, gate.book, 0, 0)
        gate.cancel(5)
        self.refused(TooMany, gate.book, 0, 0)
        self.refused(TooMany, gate.book, 1, 1)
        self.refused(NoSlot, gate.book, 1, 2)
        gate.advance()
        self.refused(Past, gate.book, 0, 0)
        self.refused(TooMany, gate.book, 0, 1)
        self.same(len(gate.calls()), 119)

    def test_cancel(self):
        gate = Gate([1, 1])
        gate.book(0, 1)
        gate.book(0, 1)
        for truck in (-1, 2):
            self.refused(NoTruck, gate.cancel, truck)
        self.same(gate.cancel(0), 1)
        self.refused(NoTruck, gate.cancel, 0)
        self.same(gate.waiting(), ((1, 0, 1, 0),))
        self.same(gate.book(0, 0), 2)
        self.same(gate.waiting(), ((1, 0, 1, 1), (2, 0, 0, 0)))
        gate.advance()
        self.refused(NoTruck, gate.cancel, 2)
        self.same(gate.cancel(1), 0)

    def test_window_of_trucks_that_are_gone(self):
        gate = Gate([1, 1])
        gate.book(0, 1)
        gate.book(1, 1)
        gate.cancel(1)
        gate.advance()
        self.same(gate.window(0), (0, 1))
        self.same(gate.window(1), (1, 1))
        for truck in (-1, 2):
            self.refused(NoTruck, gate.window, truck)


class QuotasTest(Case):
    """Quotas that are reduced, and trucks that are called."""

    def test_reduce(self):
        gate = Gate([3, 2])
        gate.book(0, 0)
        self.same(gate.reduce(0, 1), 2)
        self.same(gate.reduce(1, 2), 0)
        self.same(gate.quotas(), (2, 0))
        self.refused(Full, gate.reduce, 0, 2, told={"start": 0, "stop": 0})
        self.same(gate.reduce(0, 1), 1)
        self.same(gate.quotas(), (1, 0))

    def test_errors_of_reduce(self):
        gate = Gate([3, 2, 1])
        gate.advance()
        for slot in (-1, 3):
            self.refused(NoSlot, gate.reduce, slot, 0)
        self.refused(Past, gate.reduce, 0, 0)
        self.refused(Past, gate.reduce, 0, 1)
        for by in (-1, 0, 3):
            self.refused(TooMany, gate.reduce, 1, by)
        gate.book(0, 2)
        gate.book(1, 1)
        gate.book(1, 2)
        self.refused(Full, gate.reduce, 1, 2, told={"start": 1, "stop": 1})
        self.refused(Full, gate.reduce, 1, 1, told={"start": 1, "stop": 2})
        self.refused(Full, gate.reduce, 2, 1, told={"start": 1, "stop": 2})
        self.refused(TooMany, gate.reduce, 2, 2)

    def test_advance(self):
        gate = Gate([2, 1])
        for window in ((0, 1), (0, 0), (0, 1)):
            gate.book(*window)
        self.same(gate.advance(), (1, 0))
        self.same(state(gate), (1, (2, 1), ((2, 0, 1, 1),), ((1, 0), (0, 0))))
        self.same(gate.advance(), (2,))
        self.same(state(gate), (2, (2, 1), (), ((1, 0), (0, 0), (2, 1))))
        self.refused(Past, gate.advance)
        self.same(gate.slot, 2)
        self.refused(Past, gate.book, 0, 1)
        self.refused(Past, gate.reduce, 1, 1)

    def test_nothing_to_call(self):
        gate = Gate([0, 5])
        gate.book(1, 1)
        self.same(gate.advance(), ())
        self.same(gate.advance(), (0,))

    def test_windows_that_end_with_the_current_slot(self):
        gate = Gate([1, 1])
        gate.advance()
        self.same(gate.book(0, 1), 0)
        self.refused(Full, gate.book, 1, 1, told={"start": 1, "stop": 1})
        self.refused(Full, gate.reduce, 1, 1, told={"start": 1, "stop": 1})
        self.same(gate.advance(), (0,))

    def test_quotas_of_the_past_do_not_count(self):
        gate = Gate([5, 1])
        gate.advance()
        self.same(gate.book(0, 1), 0)
        self.refused(Full, gate.book, 0, 1, told={"start": 1, "stop": 1})


class RandomTest(Case):
    """Many calls, by the words of [L5]."""

    def test_random_calls(self):
        chance = random.Random(6)
        seen = {}
        for _ in range(200):
            self.quotas, self.now, self.windows, self.gone, self.called = some_quotas(chance, 5), 0, [], {}, []
            gate = Gate(self.quotas)
            for _ in range(30):
                word = chance.choice(("book", "book", "book", "book", "cancel", "reduce", "advance"))
                args = {"book": (chance.randint(-1, 3), chance.randint(0, 5)), "cancel": (chance.randint(-1, 6),),
                        "reduce": (chance.randint(-1, 5), chance.randint(0, 2)), "advance": ()}[word]
                if word == "advance" and chance.random() < 0.5:
                    continue
                wanted = getattr(self, "told_" + word)(*args)
                seen[word, wanted[0] if isinstance(wanted, list) else None] = True
                if isinstance(wanted, list):
                    self.refused(wanted[0], getattr(gate, word), *args, told=wanted[1])
                else:
                    self.same(getattr(gate, word)(*args), wanted)
                slots = told_schedule(self.quotas, [window for _, window in self.left()])
                self.same(state(gate), (self.now, tuple(self.quotas), tuple(
                    (truck, *self.windows[truck], slot) for (truck, _), slot in zip(self.left(), slots)),
                    tuple(self.called)))
        self.assertEqual(len(seen), 13)

    def left(self):
        return [(truck, (max(start, self.now), stop)) for truck, (start, stop) in enumerate(self.windows)
                if truck not in self.gone]

    def excess(self, quotas, more=()):
        return told_excess(quotas, [window for _, window in self.left()] + list(more), self.now)

    def told_book(self, start, stop):
        if not 0 <= start <= stop < len(self.quotas):
            return [NoSlot, {}]
        if stop < self.now:
            return [Past, {}]
        found = self.excess(self.quotas, [(max(start, self.now), stop)])
        if found:
            return [Full, {"start": found[0], "stop": found[1]}]
        self.windows.append((start, stop))
        return len(self.windows) - 1

    def told_cancel(self, truck):
        if not 0 <= truck < len(self.windows) or truck in self.gone:
            return [NoTruck, {}]
        self.gone[truck] = True
        return len(self.left())

    def told_reduce(self, slot, by):
        if not 0 <= slot < len(self.quotas):
            return [NoSlot, {}]
        if slot < self.now:
            return [Past, {}]
        if not 1 <= by <= self.quotas[slot]:
            return [TooMany, {}]
        quotas = self.quotas[:slot] + [self.quotas[slot] - by] + self.quotas[slot + 1:]
        found = self.excess(quotas)
        if found:
            return [Full, {"start": found[0], "stop": found[1]}]
        self.quotas = quotas
        return quotas[slot]

    def told_advance(self):
        if self.now == len(self.quotas):
            return [Past, {}]
        slots = told_schedule([0] * self.now + self.quotas[self.now:], [window for _, window in self.left()])
        trucks = [truck for (truck, _), slot in zip(self.left(), slots) if slot == self.now]
        trucks.sort(key=lambda truck: (self.windows[truck][1], truck))
        for truck in trucks:
            self.gone[truck] = True
            self.called.append((truck, self.now))
        self.now += 1
        return tuple(trucks)
