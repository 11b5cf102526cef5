"""[J1] to [J4] and quaybest.yard."""

import itertools
import random

from quaybest.yard import (NoSuchBox, above, allowed_slots, below, build, fill_with_forties, lifts_to_free,
                           twenties_to_level, twenties_to_prepare)
from support import Case

COLUMNS = ((1, 3), (2, 3), (4,), (4,))


class Yard:
    """A yard by the words of [J1] to [J3], box by box."""

    def __init__(self, slots):
        self.columns = [[] for _ in range(slots)]
        self.feet = {}

    def fits(self, height, feet, slot):
        covered = [slot] if feet == 20 else [slot, slot + 1]
        if not all(0 <= k < len(self.columns) for k in covered):
            return False
        heights = [len(self.columns[k]) for k in covered]
        if max(heights) >= height or min(heights) != max(heights):
            return False
        return feet == 40 or heights == [0] or self.feet[self.columns[slot][-1]] == 20

    def put(self, box, feet, slot):
        self.feet[box] = feet
        for k in [slot] if feet == 20 else [slot, slot + 1]:
            self.columns[k].append(box)

    def boxes(self):
        return sorted({box for column in self.columns for box in column})

    def directly(self, box, step):
        found = set()
        for column in self.columns:
            if box in column and 0 <= column.index(box) + step < len(column):
                found.add(column[column.index(box) + step])
        return found

    def all_from(self, box, step):
        found = self.directly(box, step)
        while True:
            more = found | {further for other in found for further in self.directly(other, step)}
            if more == found:
                return tuple(sorted(found))
            found = more

    def frozen(self):
        return tuple(map(tuple, self.columns))

    def copied(self):
        other = Yard(0)
        other.columns, other.feet = [list(column) for column in self.columns], dict(self.feet)
        return other


def some_yard(chance, slots, height, tries):
    yard = Yard(slots)
    numbers = chance.sample(range(50), tries)
    for box in numbers:
        feet, slot = chance.choice((20, 40)), chance.randrange(slots)
        if yard.fits(height, feet, slot):
            yard.put(box, feet, slot)
    return yard


def tilings(yard, tiers):
    """All sets of placements of boxes of 40 feet that bring all slots to a height."""
    low = min([len(column) for column in yard.columns], default=tiers)
    if max([len(column) for column in yard.columns], default=0) > tiers:
        return set()
    if low == tiers:
        return {()}
    slot = next(k for k, column in enumerate(yard.columns) if len(column) == low)
    # The first of the lowest slots has no equal neighbour on its left.
    if not yard.fits(tiers, 40, slot):
        return set()
    other = yard.copied()
    other.put(("new", len(other.feet)), 40, slot)
    return {((low, slot), *rest) for rest in tilings(other, tiers)}


class BuildTest(Case):
    """[J1], [J2]: boxes that are placed."""

    def test_examples(self):
        self.same(build(4, 3, ((1, 20, 0), (2, 20, 1), (3, 40, 0), (4, 40, 2))), COLUMNS)
        self.same(allowed_slots(COLUMNS, 3, 40), (0, 2))

    def test_empty_yards(self):
        self.same(build(3, 2, []), ((), (), ()))
        self.same(allowed_slots(((), ()), 1, 20), (0, 1))
        self.same(allowed_slots(((), ()), 1, 40), (0,))
        self.same(allowed_slots(((), ()), 0, 20), ())
        self.same(allowed_slots(((), ()), 0, 40), ())
        self.same(allowed_slots(((),), 2, 40), ())

    def test_twenty_on_forty(self):
        self.same(build(2, 3, [(1, 40, 0), (2, 20, 0)]), 1)
        self.same(build(2, 3, [(1, 40, 0), (2, 20, 1)]), 1)
        self.same(build(3, 3, [(1, 40, 0), (2, 20, 2), (3, 20, 2), (4, 20, 1)]), 3)

    def test_forty_on_others(self):
        self.same(build(2, 3, [(1, 40, 0), (2, 40, 0)]), ((1, 2), (1, 2)))
        self.same(build(2, 3, [(1, 20, 0), (2, 20, 1), (3, 40, 0)]), ((1, 3), (2, 3)))
        self.same(build(4, 3, [(1, 40, 0), (2, 40, 2), (3, 40, 1)]), ((1,), (1, 3), (2, 3), (2,)))
        self.same(build(3, 3, [(1, 40, 0), (2, 20, 2), (3, 40, 1)]), ((1,), (1, 3), (2, 3)))

    def test_slots_of_two_heights(self):
        self.same(build(2, 3, [(1, 20, 0), (2, 40, 0)]), 1)
        self.same(build(2, 3, [(1, 20, 1), (2, 40, 0)]), 1)

    def test_height_that_is_met(self):
        self.same(build(1, 2, [(1, 20, 0), (2, 20, 0)]), ((1, 2),))
        self.same(build(1, 2, [(1, 20, 0), (2, 20, 0), (3, 20, 0)]), 2)
        self.same(build(2, 2, [(1, 40, 0), (2, 40, 0)]), ((1, 2), (1, 2)))
        self.same(build(2, 2, [(1, 40, 0), (2, 40, 0), (3, 40, 0)]), 2)
        self.same(allowed_slots(COLUMNS, 2, 40), (2,))
        self.same(allowed_slots(COLUMNS, 1, 40), ())

    def test_slots_outside(self):
        for feet, slot in ((20, -1), (20, 2), (40, -1), (40, 1), (40, 2), (20, 99), (40, -2), (20, -2)):
            self.same(build(2, 3, [(1, 20, 0), (2, 20, 1), (3, feet, slot)]), 2)
        self.same(build(2, 3, [(0, 20, 0), (5, 20, 1)]), ((0,), (5,)))

    def test_first_that_cannot_be_placed(self):
        self.same(build(2, 1, [(1, 20, 5), (2, 20, 0)]), 0)
        self.same(build(2, 1, [(1, 20, 0), (2, 20, 0), (3, 20, 9)]), 1)

    def test_random_placements(self):
        chance = random.Random(1)
        stopped = 0
        for _ in range(1500):
            slots, height = chance.randint(1, 5), chance.randint(1, 4)
            yard, placements = Yard(slots), []
            wanted = None
            for box in chance.sample(range(40), 9):
                placements.append((box, chance.choice((20, 40)), chance.randint(0, slots - 1)))
                if not yard.fits(height, *placements[-1][1:]):
                    wanted = len(placements) - 1
                    break
                yard.put(*placements[-1])
            stopped += wanted is not None and wanted > 3
            self.same(build(slots, height, placements), yard.frozen() if wanted is None else wanted)
        self.assertGreater(stopped, 50)

    def test_random_slots(self):
        chance = random.Random(2)
        for _ in range(300):
            slots, height = chance.randint(1, 6), chance.randint(1, 4)
            yard = some_yard(chance, slots, height, 12)
            for feet in (20, 40):
                for limit in (height, height + 1):
                    self.same(allowed_slots(yard.frozen(), limit, feet),
                              tuple(slot for slot in range(slots) if yard.fits(limit, feet, slot)))


class AboveTest(Case):
    """[J3]: what is above and below a box, and its lifts."""

    def test_above_and_below(self):
        self.same([above(COLUMNS, box) for box in (1, 2, 3, 4)], [(3,), (3,), (), ()])
        self.same([below(COLUMNS, box) for box in (1, 2, 3, 4)], [(), (), (1, 2), ()])

    def test_by_way_of_other_boxes(self):
        columns = build(4, 4, [(9, 40, 0), (8, 40, 2), (7, 40, 1), (6, 40, 1)])
        self.same(columns, ((9,), (9, 7, 6), (8, 7, 6), (8,)))
        self.same(above(columns, 9), (6, 7))
        self.same(above(columns, 8), (6, 7))
        self.same(below(columns, 6), (7, 8, 9))
        self.same(below(columns, 7), (8, 9))

    def test_no_such_box(self):
        for call in (above, below, lifts_to_free):
            self.refused(NoSuchBox, call, COLUMNS, 0)
            self.refused(NoSuchBox, call, COLUMNS, 5)
            self.refused(NoSuchBox, call, ((), ()), 1)
            self.refused(NoSuchBox, call, (), 1)

    def test_box_that_can_be_lifted(self):
        self.same(lifts_to_free(COLUMNS, 3), ())
        self.same(lifts_to_free(COLUMNS, 4), ())
        self.same(lifts_to_free(COLUMNS, 1), (3,))

    def test_first_order(self):
        columns = ((1, 2, 3),)
        self.same(lifts_to_free(columns, 1), (3, 2))
        columns = build(3, 9, [(0, 20, 0), (1, 20, 1), (2, 20, 2), (5, 40, 0), (6, 20, 2), (4, 40, 0), (3, 20, 2)])
        self.same(lifts_to_free(columns, 0), (4, 5))
        columns = build(4, 9, [(0, 40, 0), (1, 40, 2), (9, 40, 1), (7, 40, 1), (8, 40, 1)])
        self.same(lifts_to_free(columns, 0), (8, 7, 9))

    def test_smallest_number_that_can_be_lifted(self):
        columns = build(4, 9, [(0, 40, 1), (1, 20, 0), (2, 20, 3), (7, 40, 0), (6, 40, 2), (9, 40, 0), (3, 40, 2)])
        self.same(columns, ((1, 7, 9), (0, 7, 9), (0, 6, 3), (2, 6, 3)))
        self.same(lifts_to_free(columns, 0), (3, 6, 9, 7))
        columns = build(4, 9, [(0, 40, 1), (1, 20, 0), (2, 20, 3), (4, 40, 0), (6, 40, 2), (5, 40, 0), (3, 40, 2)])
        self.same(lifts_to_free(columns, 0), (3, 5, 4, 6))

    def told_lifts(self, yard, box):
        found = []
        rows = [()]
        while not found:
            for row in rows:
                if not set(yard.directly(box, 1)) - set(row):
                    found.append(row)
            rows = [(*row, other) for row in rows for other in yard.boxes()
                    if other not in row and other != box and not set(yard.directly(other, 1)) - set(row)]
        return min(found)

    def test_random_yards(self):
        chance = random.Random(3)
        longest = 0
        for _ in range(200):
            yard = some_yard(chance, chance.randint(1, 4), 4, 8)
            for box in yard.boxes():
                self.same(above(yard.frozen(), box), yard.all_from(box, 1))
                self.same(below(yard.frozen(), box), yard.all_from(box, -1))
                if len(yard.all_from(box, 1)) < 4:
                    wanted = self.told_lifts(yard, box)
                    longest = max(longest, len(wanted))
                    self.same(lifts_to_free(yard.frozen(), box), wanted)
        self.assertGreaterEqual(longest, 3)


class LevelTest(Case):
    """Boxes of 20 feet behind which one of 40 feet can be placed."""

    def test_levels(self):
        self.same(twenties_to_level(COLUMNS, 3, 0), 0)
        self.same(twenties_to_level(COLUMNS, 2, 0), None)
        self.same(twenties_to_level(COLUMNS, 3, 1), None)
        self.same(twenties_to_level(COLUMNS, 3, 2), 0)
        self.same(twenties_to_level(((), ()), 1, 0), 0)
        self.same(twenties_to_level(((), ()), 0, 0), None)
        self.same(twenties_to_level(((), (1, 2)), 3, 0), 2)
        self.same(twenties_to_level(((1, 2), ()), 3, 0), 2)
        self.same(twenties_to_level(((1, 2), ()), 2, 0), None)
        self.same(twenties_to_level(((4,), (1, 2)), 3, 0), 1)

    def test_lower_slot_below_a_forty(self):
        self.same(twenties_to_level(build(3, 3, [(1, 40, 0), (2, 20, 2), (3, 20, 2)]), 3, 1), None)
        self.same(twenties_to_level(build(3, 3, [(1, 40, 0)]), 3, 1), 1)
        self.same(twenties_to_level(build(3, 3, [(1, 40, 0)]), 3, 0), 0)

    def told(self, yard, height, slot, most):
        for count in range(most + 1):
            for first in range(count + 1):
                other = yard.copied()
                if self.placed(other, height, [slot] * first + [slot + 1] * (count - first)):
                    if other.fits(height, 40, slot):
                        return count
        return None

    def placed(self, yard, height, slots):
        for number, slot in enumerate(slots):
            if not yard.fits(height, 20, slot):
                return False
            yard.put(("new", number), 20, slot)
        return True

    def test_random_yards(self):
        chance = random.Random(4)
        found = {}
        for _ in range(300):
            yard = some_yard(chance, chance.randint(2, 5), chance.randint(1, 4), 12)
            for slot in range(len(yard.columns) - 1):
                height = chance.randint(1, 5)
                wanted = self.told(yard, height, slot, 10)
                found[wanted] = True
                self.same(twenties_to_level(yard.frozen(), height, slot), wanted)
        self.assertGreaterEqual(len(found), 5)


class FillTest(Case):
    """[J4]: slots that are filled with boxes of 40 feet."""

    def test_fills(self):
        self.same(fill_with_forties(((), ()), 0), ())
        self.same(fill_with_forties(((), ()), 2), (0, 0))
        self.same(fill_with_forties(((), (), (), ()), 2), (0, 2, 0, 2))
        self.same(fill_with_forties(((), (), ()), 1), None)
        self.same(fill_with_forties(((), (1,), ()), 1), None)
        self.same(fill_with_forties(((1,), (), (), (2,)), 2), (1, 0, 2))
        self.same(fill_with_forties(COLUMNS, 2), (2,))
        self.same(fill_with_forties(COLUMNS, 3), (2, 0, 2))
        self.same(fill_with_forties(COLUMNS, 1), None)
        self.same(fill_with_forties(((1,), (2,)), 1), ())
        self.same(fill_with_forties((), 3), ())

    def test_random_yards(self):
        chance = random.Random(5)
        many = 0
        for _ in range(2000):
            yard = some_yard(chance, chance.randint(1, 6), 3, 8)
            tiers = chance.randint(0, 4)
            found = tilings(yard, tiers)
            self.assertLessEqual(len(found), 1)
            wanted = tuple(slot for _, slot in sorted(min(found))) if found else None
            many += bool(wanted)
            self.same(fill_with_forties(yard.frozen(), tiers), wanted)
        self.assertGreater(many, 80)


class PrepareTest(Case):
    """The fewest boxes of 20 feet behind which boxes of 40 feet fill all."""

    def told(self, yard, tiers):
        found = []
        for counts in itertools.product(range(tiers + 1), repeat=len(yard.columns)):
            other = yard.copied()
            if all(count == 0 or not column or yard.feet[column[-1]] == 20
                   for count, column in zip(counts, yard.columns)):
                for slot, count in enumerate(counts):
                    for number in range(count):
                        other.put(("twenty", slot, number), 20, slot)
                if tilings(other, tiers):
                    found.append((sum(counts), counts))
        return min(found)[1] if found else None

    def test_example(self):
        self.same(twenties_to_prepare(((), (5,), ()), 1), (1, 0, 1))

    def test_preparations(self):
        self.same(twenties_to_prepare(((), ()), 3), (0, 0))
        self.same(twenties_to_prepare(((), (), ()), 1), (0, 0, 1))
        self.same(twenties_to_prepare(((), (), ()), 2), (0, 0, 2))
        self.same(twenties_to_prepare(((),), 0), (0,))
        self.same(twenties_to_prepare(((1,),), 0), None)
        self.same(twenties_to_prepare((), 2), ())
        self.same(twenties_to_prepare(((1, 2), ()), 2), (0, 2))

    def test_slots_below_a_forty(self):
        columns = build(3, 3, [(1, 40, 0)])
        self.same(twenties_to_prepare(columns, 2), (0, 0, 2))
        self.same(twenties_to_prepare(build(3, 3, [(1, 40, 0), (2, 20, 2), (3, 40, 1)]), 2), None)
        self.same(twenties_to_prepare(build(3, 3, [(1, 40, 0), (2, 20, 2), (3, 40, 1)]), 3), None)
        self.same(twenties_to_prepare(columns, 1), (0, 0, 1))

    def test_random_yards(self):
        chance = random.Random(6)
        found = {}
        for _ in range(300):
            yard = some_yard(chance, chance.randint(1, 5), 3, chance.choice((3, 8)))
            tiers = chance.randint(0, 3)
            wanted = self.told(yard, tiers)
            found[wanted] = True
            self.same(twenties_to_prepare(yard.frozen(), tiers), wanted)
        self.assertGreater(len(found), 30)

    def test_first_of_several_in_stretches(self):
        yard = Yard(6)
        for box, feet, slot in ((1, 20, 0), (2, 20, 0), (3, 20, 1), (4, 20, 2), (5, 20, 2)):
            yard.put(box, feet, slot)
        self.same(self.told(yard, 3), (0, 1, 0, 0, 0, 2))
        self.same(twenties_to_prepare(yard.frozen(), 3), (0, 1, 0, 0, 0, 2))
        self.same(twenties_to_prepare(((7,), (), (), (), (8,), (), ()), 3), (0, 0, 0, 1, 2, 0, 0))

    def test_long_rows_of_slots(self):
        self.same(twenties_to_prepare(((),) * 30, 9), (0,) * 30)
        self.same(twenties_to_prepare(((),) * 31, 9), (0,) * 30 + (9,))
