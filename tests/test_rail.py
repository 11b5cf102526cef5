"""[I4] and quaybest.rail."""

import random

from quaybest.cranes import BadPaths, TooClose, first_violation
from quaybest.rail import CraneRail, HistoryFull, NoCrane, NoPosition
from support import Case


def state(rail):
    return rail.positions(), rail.waiting(), rail.history()


class NewRailTest(Case):
    """Rails and their cranes."""

    def test_first_state(self):
        positions = [0, 5, 200]
        rail = CraneRail(5, positions)
        positions[0] = 9
        self.same(state(rail), ((0, 5, 200), (), ((0, 5, 200),)))

    def test_wrong_cranes(self):
        for positions in ([], [0, 20, 40, 60, 80, 100, 120], [300] * 7):
            self.refused(BadPaths, CraneRail, 3, positions, told={"minute": None})
        for positions in ([-1], [201], [0, 201], [-1, 0], [5, 4, 201]):
            self.refused(BadPaths, CraneRail, 3, positions, told={"minute": 0})
        for positions in ([0, 2], [5, 4], [5, 5], [0, 3, 5]):
            self.refused(TooClose, CraneRail, 3, positions, told={"number": 0})

    def test_as_many_as_may_be(self):
        self.same(CraneRail(12, (0, 12, 24, 36, 48, 60)).positions(), (0, 12, 24, 36, 48, 60))
        self.same(CraneRail(12, (0,)).positions(), (0,))


class SendTest(Case):
    """Cranes that are sent."""

    def test_send(self):
        rail = CraneRail(3, [10, 20])
        self.same(rail.send(0, 4), 6)
        self.same(rail.send(1, 25), 5)
        self.same(rail.waiting(), (0, 1))
        self.same(rail.send(0, 10), 0)
        self.same(rail.waiting(), (1,))
        self.same(rail.positions(), (10, 20))

    def test_first_and_last_position(self):
        rail = CraneRail(3, [10, 20])
        self.same(rail.send(0, 200), 190)
        self.same(rail.send(1, 0), 20)
        for position in (-1, 201):
            self.refused(NoPosition, rail.send, 0, position)
        for crane in (-1, 2):
            self.refused(NoCrane, rail.send, crane, 5)
            self.refused(NoCrane, rail.send, crane, 201)
        self.same(rail.waiting(), (0, 1))


class StepTest(Case):
    """Steps."""

    def test_nothing_to_do(self):
        rail = CraneRail(3, [10, 20])
        self.same(rail.step(), ())
        self.same(rail.history(), ((10, 20), (10, 20)))

    def test_both_ways(self):
        rail = CraneRail(3, [10, 20, 30])
        rail.send(0, 8)
        rail.send(2, 31)
        self.same(rail.step(), (0, 2))
        self.same(state(rail), ((9, 20, 31), (0,), ((10, 20, 30), (9, 20, 31))))
        self.same(rail.step(), (0,))
        self.same(rail.step(), ())
        self.same(rail.waiting(), ())

    def test_cranes_go_in_a_row(self):
        rail = CraneRail(3, [10, 13, 16])
        for crane in range(3):
            rail.send(crane, 50)
        self.same(rail.step(), (0, 1, 2))
        self.same(rail.positions(), (11, 14, 17))
        for crane in range(3):
            rail.send(crane, 0)
        self.same(rail.step(), (0, 1, 2))
        self.same(rail.positions(), (10, 13, 16))

    def test_gap_that_is_met_exactly(self):
        rail = CraneRail(3, [10, 14])
        rail.send(0, 50)
        self.same(rail.step(), (0,))
        self.same(rail.step(), ())
        self.same(rail.positions(), (11, 14))
        rail = CraneRail(3, [10, 14])
        rail.send(1, 0)
        self.same(rail.step(), (1,))
        self.same(rail.step(), ())
        self.same(rail.positions(), (10, 13))

    def test_left_comes_first(self):
        rail = CraneRail(3, [10, 14])
        rail.send(0, 50)
        rail.send(1, 0)
        self.same(rail.step(), (1,))
        self.same(state(rail), ((10, 13), (0, 1), ((10, 14), (10, 13))))
        rail = CraneRail(3, [10, 13])
        rail.send(0, 0)
        rail.send(1, 0)
        self.same(rail.step(), (0, 1))

    def test_right_goer_makes_no_room_for_a_left_goer(self):
        rail = CraneRail(3, [10, 13, 16])
        rail.send(2, 0)
        rail.send(1, 50)
        rail.send(0, 9)
        self.same(rail.step(), (0,))
        rail.send(1, 9)
        self.same(rail.step(), (1, 2))
        self.same(rail.positions(), (9, 12, 15))

    def test_crane_sent_past_another_one(self):
        rail = CraneRail(3, [10, 20])
        rail.send(0, 30)
        for _ in range(9):
            rail.step()
        self.same(state(rail)[:2], ((17, 20), (0,)))
        rail.send(1, 40)
        for _ in range(25):
            rail.step()
        self.same(state(rail)[:2], ((30, 40), ()))

    def test_ends_of_the_rail(self):
        rail = CraneRail(1, [0, 200])
        rail.send(0, 0)
        rail.send(1, 200)
        self.same(rail.step(), ())
        rail.send(0, 200)
        for _ in range(300):
            rail.step()
        self.same(rail.positions(), (199, 200))

    def test_full_history(self):
        rail = CraneRail(1, [0])
        for minute in range(2499):
            rail.send(0, 1 - rail.positions()[0])
            self.same(rail.step(), (0,))
        self.same(len(rail.history()), 2500)
        rail.send(0, 0)
        self.refused(HistoryFull, rail.step)
        self.same((rail.positions(), rail.waiting(), len(rail.history())), ((1,), (0,), 2500))
        self.same(rail.send(0, 4), 3)


class RandomTest(Case):
    """Many steps, by the words of [I4]."""

    def test_random_steps(self):
        chance = random.Random(1)
        for _ in range(150):
            gap, cranes = chance.randint(1, 4), chance.randint(1, 6)
            positions = [position + gap * crane for crane, position in
                         enumerate(sorted(chance.randint(0, 12) for _ in range(cranes)))]
            rail, goals, rows = CraneRail(gap, positions), list(positions), [tuple(positions)]
            for _ in range(30):
                for crane in range(cranes):
                    if chance.random() < 0.2:
                        goals[crane] = chance.randint(0, 30)
                        self.same(rail.send(crane, goals[crane]), abs(goals[crane] - positions[crane]))
                positions = self.told_step(gap, positions, goals)
                self.same(rail.step(), tuple(k for k in range(cranes) if positions[k] != rows[-1][k]))
                rows.append(tuple(positions))
                self.same(state(rail), (rows[-1], tuple(k for k in range(cranes) if positions[k] != goals[k]),
                                        tuple(rows)))
            self.same(first_violation(rows, gap), None)

    def told_step(self, gap, positions, goals):
        found = list(positions)
        for crane in range(len(found)):
            if goals[crane] < found[crane] and not (crane and found[crane] - 1 - found[crane - 1] < gap):
                found[crane] -= 1
        for crane in reversed(range(len(found))):
            last = crane == len(found) - 1
            if goals[crane] > found[crane] and not (not last and found[crane + 1] - (found[crane] + 1) < gap):
                found[crane] += 1
        return found
