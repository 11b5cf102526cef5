"""[J1] to [J3] and quaybest.blocks."""

import random

from quaybest.blocks import BoxThere, Covered, NoChange, NoRoom, YardBlock
from quaybest.yard import NoSuchBox, build
from support import Case
from test_yard import Yard


def filled(slots, height, placements):
    block = YardBlock(slots, height)
    for box, feet, slot in placements:
        block.place(box, feet, slot)
    return block


class PlaceTest(Case):
    """Boxes that are placed."""

    def test_empty(self):
        self.same(YardBlock(3, 2).columns(), ((), (), ()))

    def test_place(self):
        block = YardBlock(4, 3)
        self.same([block.place(*row) for row in ((1, 20, 0), (2, 20, 1), (3, 40, 0), (4, 40, 2))], [0, 0, 1, 0])
        self.same(block.columns(), ((1, 3), (2, 3), (4,), (4,)))

    def test_box_there(self):
        block = filled(4, 3, [(7, 20, 0), (8, 40, 2)])
        for box in (7, 8):
            self.refused(BoxThere, block.place, box, 20, 1)
            self.refused(BoxThere, block.place, box, 20, 9)
        block.lift(7)
        self.same(block.place(7, 20, 1), 0)

    def test_no_room(self):
        block = filled(4, 2, [(1, 20, 0), (2, 20, 0), (3, 40, 2)])
        for feet, slot in ((20, -1), (20, 4), (40, 3), (40, -1), (20, 0), (40, 0), (40, 1), (20, 2), (20, 3)):
            self.refused(NoRoom, block.place, 9, feet, slot)
        self.same(block.place(9, 40, 2), 1)
        self.refused(NoRoom, block.place, 8, 40, 2)
        self.same(block.columns(), ((1, 2), (), (3, 9), (3, 9)))

    def test_last_slot_and_height(self):
        block = YardBlock(2, 1)
        self.same(block.place(0, 20, 1), 0)
        self.refused(NoRoom, block.place, 1, 20, 1)
        self.refused(NoRoom, block.place, 1, 40, 1)
        self.same(block.place(1, 20, 0), 0)


class LiftTest(Case):
    """Boxes that are lifted and dug out."""

    def test_lift(self):
        block = filled(4, 3, [(1, 20, 0), (2, 20, 1), (3, 40, 0), (4, 40, 2)])
        for box in (1, 2):
            self.refused(Covered, block.lift, box)
        for box in (0, 5):
            self.refused(NoSuchBox, block.lift, box)
        self.same(block.lift(3), (3, 40, 0))
        self.same(block.lift(4), (4, 40, 2))
        self.same(block.lift(2), (2, 20, 1))
        self.same(block.columns(), ((1,), (), (), ()))

    def test_covered_on_one_side(self):
        block = filled(3, 3, [(1, 40, 0), (2, 20, 2), (3, 40, 1)])
        self.refused(Covered, block.lift, 1)
        self.refused(Covered, block.lift, 2)
        self.same(block.lift(3), (3, 40, 1))
        self.same(block.lift(1), (1, 40, 0))

    def test_dig(self):
        block = filled(4, 9, [(0, 40, 1), (1, 20, 0), (2, 20, 3), (4, 40, 0), (6, 40, 2), (5, 40, 0), (3, 40, 2)])
        self.same(block.dig(0), (3, 5, 4, 6, 0))
        self.same(block.columns(), ((1,), (), (), (2,)))
        self.same(block.dig(1), (1,))
        self.refused(NoSuchBox, block.dig, 1)

    def test_undo_of_each_change(self):
        block = YardBlock(4, 9)
        self.refused(NoChange, block.undo)
        states = [block.columns()]
        for call, args in ((block.place, (1, 40, 0)), (block.place, (2, 40, 0)),
                           (block.place, (3, 20, 2)), (block.lift, (2,)), (block.place, (4, 40, 0)),
                           (block.place, (5, 40, 0)), (block.dig, (1,)), (block.lift, (3,))):
            call(*args)
            states.append(block.columns())
        self.refused(NoSuchBox, block.lift, 1)
        self.refused(NoSuchBox, block.dig, 1)
        self.refused(NoRoom, block.place, 9, 40, 3)
        for left in range(len(states) - 2, -1, -1):
            self.same(block.undo(), left)
            self.same(block.columns(), states[left])
        self.refused(NoChange, block.undo)
        self.same(block.place(1, 20, 3), 0)
        self.same(block.undo(), 0)


class RandomTest(Case):
    """Many calls, by the words."""

    def test_random_calls(self):
        chance = random.Random(1)
        seen = {}
        for _ in range(150):
            self.height, self.yard, self.earlier = chance.randint(1, 4), Yard(chance.randint(1, 4)), []
            block = YardBlock(len(self.yard.columns), self.height)
            for _ in range(40):
                word = chance.choice(("place", "place", "place", "lift", "dig", "undo"))
                args = {"place": (chance.randint(0, 9), chance.choice((20, 40)), chance.randint(-1, 4)), "undo": (),
                        "lift": (chance.randint(0, 9),), "dig": (chance.randint(0, 9),)}[word]
                wanted = getattr(self, "told_" + word)(*args)
                seen[word, wanted if isinstance(wanted, type) else None] = True
                if isinstance(wanted, type):
                    self.refused(wanted, getattr(block, word), *args)
                else:
                    self.same(getattr(block, word)(*args), wanted)
                self.same(block.columns(), self.yard.frozen())
        self.assertEqual(len(seen), 10)

    def change(self):
        self.earlier.append(self.yard)
        self.yard = self.yard.copied()

    def take(self, box):
        for column in self.yard.columns:
            if box in column:
                column.remove(box)

    def told_place(self, box, feet, slot):
        if box in self.yard.boxes():
            return BoxThere
        if not self.yard.fits(self.height, feet, slot):
            return NoRoom
        self.change()
        self.yard.put(box, feet, slot)
        return len(self.yard.columns[slot]) - 1

    def told_lift(self, box):
        if box not in self.yard.boxes():
            return NoSuchBox
        if self.yard.directly(box, 1):
            return Covered
        slot = next(k for k, column in enumerate(self.yard.columns) if box in column)
        self.change()
        self.take(box)
        return box, self.yard.feet[box], slot

    def told_dig(self, box):
        if box not in self.yard.boxes():
            return NoSuchBox
        self.change()
        found = []
        while box in self.yard.boxes():
            free = [other for other in self.yard.all_from(box, 1) if not self.yard.directly(other, 1)]
            found.append(min(free, default=box))
            self.take(found[-1])
        return tuple(found)

    def told_undo(self):
        if not self.earlier:
            return NoChange
        self.yard = self.earlier.pop()
        return len(self.earlier)

    def test_as_build_does(self):
        chance = random.Random(2)
        for _ in range(100):
            block, placed = YardBlock(4, 3), []
            for box in range(12):
                row = (box, chance.choice((20, 40)), chance.randint(0, 3))
                found = build(4, 3, [*placed, row])
                if isinstance(found, int):
                    self.refused(NoRoom, block.place, *row)
                else:
                    block.place(*row)
                    placed.append(row)
                    self.same(block.columns(), found)
