"""[H2], [H5] and quaybest.holds."""

import random

from quaybest.holds import Hold, HoldFull, NoBox, NoPosition, TooClose
from support import Case
from test_segregation import ALONE, TABLE, some_table, told_apart, told_pack, told_too_close


def state(hold):
    return hold.boxes(), hold.row()


def filled(table, length, kinds):
    hold = Hold(table, length)
    for kind in kinds:
        hold.add(kind)
    return hold


class AddTest(Case):
    """Boxes that are added."""

    def test_example(self):
        hold = Hold(TABLE, 12)
        self.same([hold.add(kind) for kind in (1, 2, 0)], [(1, 0), (2, 7), (3, 2)])
        self.same(hold.boxes(), ((1, 1, 0), (3, 0, 2), (2, 2, 7)))
        self.same(hold.row(), [(1, 0), (2, 7), (0, 2)])

    def test_no_boxes(self):
        hold = Hold(TABLE, 12)
        self.same(state(hold), ((), []))
        self.refused(NoPosition, Hold(TABLE, 0).add, 0)
        self.same(Hold(TABLE, 1).add(2), (1, 0))

    def test_first_and_last_position(self):
        hold = Hold(TABLE, 8)
        self.same(hold.add(1), (1, 0))
        self.same(hold.add(2), (2, 7))
        self.refused(NoPosition, hold.add, 2)
        hold = filled(TABLE, 7, [1])
        self.refused(NoPosition, hold.add, 2)
        self.same(hold.add(0), (2, 2))

    def test_fortieth_box(self):
        hold = Hold(ALONE, 60)
        self.assertEqual([hold.add(0) for _ in range(40)], [(k + 1, k) for k in range(40)])
        self.refused(HoldFull, hold.add, 0)
        self.same(len(hold.row()), 40)
        self.same(hold.remove(7), (0, 6))
        self.same(hold.add(0), (41, 6))
        self.refused(HoldFull, hold.add, 0)

    def test_full_is_told_before_no_position(self):
        hold = filled(ALONE, 40, [0] * 39)
        self.same(hold.add(0), (40, 39))
        self.refused(HoldFull, hold.add, 0)
        self.refused(NoPosition, filled(ALONE, 39, [0] * 39).add, 0)

    def test_refused_boxes_get_no_number(self):
        hold = filled(TABLE, 7, [1])
        self.refused(NoPosition, hold.add, 2)
        self.same(hold.add(1), (2, 1))

    def test_numbers_are_not_given_again(self):
        hold = filled(TABLE, 12, [0, 0, 0])
        self.same(hold.remove(3), (0, 2))
        self.same(hold.remove(1), (0, 0))
        self.same(hold.add(0), (4, 0))
        self.same(hold.row(), [(0, 1), (0, 0)])
        for number in (1, 3):
            self.refused(NoBox, hold.remove, number)

    def test_table_is_kept(self):
        table = [[[0, 1], [1, 0]], [1, 5, 6, 7]]
        hold = Hold(table, 12)
        hold.add(0)
        table[0][0][1] = table[0][1][0] = 0
        table[1][1] = 1
        self.same(hold.add(1), (2, 5))


class RemoveTest(Case):
    """Boxes that are taken out."""

    def test_remove(self):
        hold = filled(TABLE, 12, [1, 2, 0])
        self.same(hold.remove(2), (2, 7))
        self.same(state(hold), (((1, 1, 0), (3, 0, 2)), [(1, 0), (0, 2)]))
        for number in (2, 0, -1, 4):
            self.refused(NoBox, hold.remove, number)
        self.same(hold.remove(1), (1, 0))
        self.same(hold.remove(3), (0, 2))
        self.same(state(hold), ((), []))
        self.refused(NoBox, hold.remove, 3)

    def test_row_may_be_changed(self):
        hold = filled(TABLE, 12, [1, 2])
        hold.row().clear()
        hold.row().append((0, 1))
        self.same(hold.row(), [(1, 0), (2, 7)])


class MoveTest(Case):
    """Boxes that are moved."""

    def test_move(self):
        hold = filled(TABLE, 12, [1, 0])
        self.same(hold.move(1, 11), 0)
        self.same(hold.move(2, 0), 2)
        self.same(state(hold), (((2, 0, 0), (1, 1, 11)), [(1, 11), (0, 0)]))
        self.same(hold.move(1, 2), 11)
        self.same(hold.move(1, 2), 2)
        self.refused(TooClose, hold.move, 1, 1, told={"box": 2})

    def test_errors(self):
        hold = filled(TABLE, 12, [1, 0])
        for number in (0, 3, -1):
            self.refused(NoBox, hold.move, number, 5)
            self.refused(NoBox, hold.move, number, 12)
        for position in (-1, 12, 99):
            self.refused(NoPosition, hold.move, 1, position)
        self.same(state(hold), (((1, 1, 0), (2, 0, 2)), [(1, 0), (0, 2)]))

    def test_least_number_of_the_boxes_that_are_too_close(self):
        hold = filled(ALONE, 12, [0] * 4)
        hold.move(1, 9)
        self.refused(TooClose, hold.move, 4, 9, told={"box": 1})
        hold = filled((((3, 0), (0, 3)), (0, 0, 0, 2)), 12, [0, 0, 1])
        self.same(hold.row(), [(0, 0), (0, 2), (1, 1)])
        hold.move(1, 6)
        hold.move(2, 4)
        hold.add(0)
        self.same(hold.row(), [(0, 6), (0, 4), (1, 1), (0, 0)])
        self.refused(TooClose, hold.move, 4, 5, told={"box": 1})
        self.refused(TooClose, hold.move, 4, 3, told={"box": 2})
        self.same(hold.move(4, 2), 0)

    def test_own_old_position_does_not_count(self):
        hold = filled(TABLE, 12, [2, 2])
        self.same(hold.row(), [(2, 0), (2, 2)])
        self.same(hold.move(2, 3), 2)
        self.same(hold.move(2, 2), 3)


class CompactTest(Case):
    """Boxes that are packed."""

    def test_no_boxes(self):
        self.same(Hold(TABLE, 12).compact(), 0)

    def test_compact(self):
        hold = filled(TABLE, 20, [1, 2, 0])
        hold.move(2, 19)
        hold.move(3, 10)
        self.same(hold.compact(), 12)
        self.same(state(hold), (((1, 1, 0), (3, 0, 2), (2, 2, 7)), [(1, 0), (2, 7), (0, 2)]))
        self.same(hold.compact(), 0)

    def test_first_box_that_stands_behind(self):
        hold = filled(TABLE, 20, [0])
        hold.move(1, 19)
        self.same(hold.compact(), 19)
        self.same(hold.boxes(), ((1, 0, 0),))

    def test_order_in_which_they_stand(self):
        hold = filled(TABLE, 20, [1, 2])
        hold.move(1, 18)
        self.same(hold.move(2, 1), 7)
        self.same(hold.compact(), 11)
        self.same(hold.boxes(), ((2, 2, 0), (1, 1, 7)))


class RandomTest(Case):
    """Many calls, by the words."""

    def test_random_calls(self):
        chance = random.Random(1)
        seen = {}
        for _ in range(150):
            self.table, self.length = some_table(chance, 3), chance.randint(1, 25)
            self.rows, self.given = {}, 0
            hold = Hold(self.table, self.length)
            for _ in range(30):
                word = chance.choice(("add", "add", "remove", "move", "move", "compact"))
                args = {"add": (chance.randrange(3),), "remove": (chance.randint(0, self.given + 1),), "compact": (),
                        "move": (chance.randint(0, self.given + 1), chance.randint(-1, self.length))}[word]
                wanted = getattr(self, "told_" + word)(*args)
                if isinstance(wanted, list):
                    self.refused(wanted[0], getattr(hold, word), *args, told=wanted[1])
                    seen[word, wanted[0]] = True
                else:
                    self.same(getattr(hold, word)(*args), wanted)
                    seen[word] = True
                rows = [(number, *row) for number, row in sorted(self.rows.items())]
                self.same(hold.boxes(), tuple(sorted(rows, key=lambda row: row[2])))
                self.same(hold.row(), [row[1:] for row in rows])
        self.assertEqual(len(seen), 9)

    def told_add(self, kind):
        for position in range(self.length):
            if not any(told_too_close(self.table, row, (kind, position)) for row in self.rows.values()):
                self.given += 1
                self.rows[self.given] = (kind, position)
                return self.given, position
        return [NoPosition, {}]

    def told_remove(self, number):
        return self.rows.pop(number) if number in self.rows else [NoBox, {}]

    def told_move(self, number, position):
        if number not in self.rows:
            return [NoBox, {}]
        if not 0 <= position < self.length:
            return [NoPosition, {}]
        kind, before = self.rows[number]
        close = [other for other, (beside, at) in self.rows.items()
                 if other != number and abs(at - position) < told_apart(self.table, beside, kind)]
        if close:
            return [TooClose, {"box": min(close)}]
        self.rows[number] = (kind, position)
        return before

    def told_compact(self):
        order = sorted(self.rows, key=lambda number: self.rows[number][1])
        before = max([row[1] for row in self.rows.values()], default=0)
        positions = told_pack(self.table, [self.rows[number][0] for number in order])
        for number, position in zip(order, positions):
            self.rows[number] = (self.rows[number][0], position)
        return before - max(positions, default=0)
