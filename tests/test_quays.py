"""[C1], [C2], [C3] and quaybest.quays."""

import random

from quaybest.quays import BadShip, NoShip, NothingToUndo, Quay, QuayFull
from support import Case
from test_berths import SHIPS, told_chain, told_effect, told_starts


class QuayTest(Case):
    """Ships that arrive, are delayed and stay longer."""

    def quay(self):
        quay = Quay(10)
        for ship in SHIPS:
            quay.arrive(ship)
        return quay

    def test_example(self):
        quay = Quay(10)
        self.assertEqual([quay.arrive(ship) for ship in SHIPS], [0, 10, 1, 15, 30])
        self.same(quay.ships(), tuple(SHIPS))
        self.same(quay.starts(), (0, 10, 1, 15, 30))
        self.same(quay.critical_chain(3), (0, 1, 3))
        self.same(quay.free_bollards(12), ((0, 2), (6, 9)))
        self.same(quay.delay(0, 3), ((0, 3), (1, 3), (3, 3)))
        self.same(quay.ships()[0], (0, 4, 3, 10))
        self.same(quay.starts(), (3, 13, 1, 18, 30))

    def test_prolong(self):
        quay = self.quay()
        self.same(quay.prolong(1, 20), ((3, 20),))
        self.same(quay.ships()[1], (3, 3, 2, 25))
        self.same(quay.prolong(4, 1), ())
        self.same(quay.undo(), 5)
        self.same(quay.undo(), 5)
        self.same(quay.ships(), tuple(SHIPS))

    def test_empty_quay(self):
        quay = Quay(3)
        self.same(quay.ships(), ())
        self.same(quay.starts(), ())
        self.same(quay.free_bollards(0), ((0, 2),))
        self.refused(NothingToUndo, quay.undo)

    def test_places(self):
        quay = Quay(5)
        for ship in ((-1, 2, 0, 1), (4, 2, 0, 1), (0, 6, 0, 1), (5, 1, 0, 1), (0, 0, 0, 1), (2, -1, 0, 1), (0, 0, -1, 0)):
            self.refused(BadShip, quay.arrive, ship, told={"reason": "place"})
        self.same(quay.arrive((4, 1, 3, 1)), 3)
        self.same(quay.arrive((0, 5, 0, 1)), 4)

    def test_minutes(self):
        quay = Quay(5)
        for ship in ((0, 5, -1, 1), (0, 5, 0, 0), (0, 5, 0, -3)):
            self.refused(BadShip, quay.arrive, ship, told={"reason": "minutes"})
        self.same(quay.arrive((0, 5, 0, 1)), 0)
        for by in (0, -1):
            self.refused(BadShip, quay.delay, 0, by, told={"reason": "minutes"})
            self.refused(BadShip, quay.prolong, 0, by, told={"reason": "minutes"})
        self.same(quay.delay(0, 1), ((0, 1),))

    def test_no_ship(self):
        quay = self.quay()
        for number in (-1, 5, 99):
            self.refused(NoShip, quay.delay, number, 1)
            self.refused(NoShip, quay.delay, number, 0)
            self.refused(NoShip, quay.prolong, number, 1)
            self.refused(NoShip, quay.prolong, number, 0)
            self.refused(NoShip, quay.critical_chain, number)
        self.refused(NoShip, Quay(3).critical_chain, 0)

    def test_twenty_four_ships(self):
        quay = Quay(2)
        self.assertEqual([quay.arrive((0, 2, 0, 1)) for _ in range(24)], list(range(24)))
        self.refused(QuayFull, quay.arrive, (0, 2, 0, 1))
        self.refused(BadShip, quay.arrive, (0, 3, 0, 1), told={"reason": "place"})
        self.refused(BadShip, quay.arrive, (0, 2, 0, 0), told={"reason": "minutes"})
        self.same(len(quay.ships()), 24)
        self.same(quay.undo(), 23)
        self.same(quay.arrive((0, 2, 0, 1)), 23)

    def test_ship_as_a_list(self):
        quay = Quay(9)
        ship = [1, 2, 3, 4]
        quay.arrive(ship)
        ship[0] = 5
        self.same(quay.ships(), ((1, 2, 3, 4),))

    def test_errors_change_nothing(self):
        quay = self.quay()
        self.refused(BadShip, quay.arrive, (0, 11, 0, 1))
        self.refused(BadShip, quay.delay, 0, 0)
        self.refused(NoShip, quay.prolong, 5, 1)
        self.same(quay.ships(), tuple(SHIPS))
        self.same(quay.undo(), 4)

    def test_random_changes(self):
        chance = random.Random(1)
        for _ in range(30):
            quay, ships, earlier = Quay(8), [], []
            for _ in range(30):
                self.one_change(chance, quay, ships, earlier)
                self.same(quay.ships(), tuple(ships))
                self.same(quay.starts(), told_starts(ships))
                for number in range(len(ships)):
                    self.same(quay.critical_chain(number), told_chain(ships, number))

    def one_change(self, chance, quay, ships, earlier):
        word = chance.choice(["arrive", "arrive", "delay", "prolong", "undo"])
        if word == "undo":
            if earlier:
                ships[:] = earlier.pop()
                self.same(quay.undo(), len(ships))
            else:
                self.refused(NothingToUndo, quay.undo)
        elif word == "arrive" or not ships:
            earlier.append(list(ships))
            ships.append((chance.randint(0, 5), chance.randint(1, 3), chance.randint(0, 20), chance.randint(1, 9)))
            self.same(quay.arrive(ships[-1]), told_starts(ships)[-1])
        else:
            earlier.append(list(ships))
            number, by = chance.randrange(len(ships)), chance.randint(1, 9)
            later, longer = (by, 0) if word == "delay" else (0, by)
            call = quay.delay if word == "delay" else quay.prolong
            self.same(call(number, by), told_effect(ships, number, later, longer))
            position, length, ready, stay = ships[number]
            ships[number] = (position, length, ready + later, stay + longer)
