"""[P6] and quaybest.ring."""

import random

from quaybest.empties import BadLegs, cost, optimal_flows, to_moves
from quaybest.ring import BadStock, NoPort, NothingToUndo, RingService, SamePort, TooFewEmpties, TooManyChanges
from support import Case, listed

LEGS = ((3, 5), (2, 7), (4, 1))


def state(ring):
    return ring.stock(), ring.planned(), ring.paid(), ring.changes()


class NewRingTest(Case):
    """New services."""

    def test_first_state(self):
        legs, stock = listed(LEGS), [0, 1000, 5]
        ring = RingService(legs, stock)
        self.same(state(ring), ((0, 1000, 5), (0, 1000, 5), 0, 0))
        stock[0] = 9
        legs[1][0] = 50
        self.same(state(ring), ((0, 1000, 5), (0, 1000, 5), 0, 0))
        self.same(ring.ship(1, "forward", 1), 2)
        self.refused(NothingToUndo, RingService(LEGS, (1, 2, 3)).undo)

    def test_errors(self):
        for stock, port in (((0, -1, 1001), 1), ((1001, 0, -1), 0), ((0, 0, 1001), 2), ((), None), ((1, 2), None),
                            ((0, 0, 0, 0), None)):
            self.refused(BadStock, RingService, LEGS, stock, told={"port": port})
        for legs, number in ((((1, 1),), None), (((1, 1), (1, 51)), 1), (((1, 1),) * 25, None)):
            for stock in ((), (-1, 0), (0, 0)):
                self.refused(BadLegs, RingService, legs, stock, told={"number": number})


class ChangesTest(Case):
    """Requests, shipments, settlements, and what takes them back."""

    def test_request(self):
        ring = RingService(LEGS, (5, 6, 7))
        self.same(ring.request(0, 2, 5), 12)
        self.same(state(ring), ((5, 6, 7), (0, 6, 12), 0, 1))
        self.same(ring.request(2, 1, 1), 7)
        self.same(state(ring), ((5, 6, 7), (0, 7, 11), 0, 2))

    def test_ship(self):
        ring = RingService(LEGS, (5, 6, 7))
        self.same(ring.ship(0, "forward", 2), 6)
        self.same(state(ring), ((3, 8, 7), (5, 6, 7), 6, 1))
        self.same(ring.ship(2, "forward", 7), 28)
        self.same(state(ring), ((10, 8, 0), (5, 6, 7), 34, 2))
        self.same(ring.ship(0, "backward", 3), 3)
        self.same(state(ring), ((7, 8, 3), (5, 6, 7), 37, 3))
        self.same(ring.ship(1, "backward", 1), 5)
        self.same(ring.ship(2, "backward", 1), 7)
        self.same(state(ring), ((8, 8, 2), (5, 6, 7), 49, 5))

    def test_settle(self):
        ring = RingService(LEGS, (5, 6, 7))
        self.same(ring.settle(), (0, ()))
        self.same(state(ring), ((5, 6, 7), (5, 6, 7), 0, 1))
        ring.request(0, 1, 3)
        ring.request(0, 2, 2)
        wanted = optimal_flows(LEGS, (5, -3, -2))
        self.same(ring.settle(), (wanted[0], to_moves(wanted[1])))
        self.same(state(ring), ((0, 9, 9), (0, 9, 9), wanted[0], 4))
        ring.ship(1, "forward", 4)
        self.same(ring.settle()[0], optimal_flows(LEGS, (0, -4, 4))[0])
        self.same(ring.stock(), (0, 9, 9))

    def test_settle_beyond_a_surplus_of_1000(self):
        ring = RingService(((1, 2), (3, 4)), (1000, 1000))
        ring.request(0, 1, 1000)
        ring.ship(1, "forward", 1000)
        self.same(state(ring), ((2000, 0), (0, 2000), 3000, 2))
        self.same(ring.settle(), (2000, ((0, "forward", 1, 2000),)))
        self.same(state(ring), ((0, 2000), (0, 2000), 5000, 3))

    def test_errors(self):
        ring = RingService(LEGS, (5, 0, 7))
        before = state(ring)
        for start, stop in ((-1, 0), (3, 0), (0, -1), (0, 3), (3, 3), (-1, -1)):
            self.refused(NoPort, ring.request, start, stop, 99)
        for port in (0, 1):
            self.refused(SamePort, ring.request, port, port, 99)
        self.refused(TooFewEmpties, ring.request, 0, 1, 6)
        self.refused(TooFewEmpties, ring.request, 1, 0, 1)
        for port in (-1, 3):
            self.refused(NoPort, ring.ship, port, "forward", 99)
        self.refused(TooFewEmpties, ring.ship, 0, "forward", 6)
        self.refused(TooFewEmpties, ring.ship, 1, "backward", 1)
        self.same(state(ring), before)

    def test_what_is_planned_and_what_is_in_stock(self):
        ring = RingService(LEGS, (5, 0, 7))
        ring.request(0, 1, 5)
        self.same(ring.ship(0, "backward", 5), 5)
        self.refused(TooFewEmpties, ring.request, 0, 1, 1)
        self.refused(TooFewEmpties, ring.ship, 0, "forward", 1)
        self.same(ring.request(1, 0, 5), 5)
        self.refused(TooFewEmpties, ring.ship, 0, "forward", 1)

    def test_undo_behind_each_kind_of_change(self):
        ring = RingService(LEGS, (5, 6, 7))
        states = [state(ring)]
        for change in (lambda: ring.request(0, 1, 2), lambda: ring.ship(2, "forward", 3), ring.settle, ring.settle,
                       lambda: ring.request(1, 2, 1), lambda: ring.ship(0, "backward", 1)):
            change()
            states.append(state(ring))
        while len(states) > 1:
            self.same(state(ring), states.pop())
            self.same(ring.undo(), len(states) - 1)
        self.same(state(ring), states[0])
        self.refused(NothingToUndo, ring.undo)
        self.same(ring.request(0, 1, 2), 8)

    def test_300_changes_and_one_more(self):
        ring = RingService(LEGS, (5, 6, 7))
        for number in range(300):
            (lambda: ring.request(0, 1, 1), lambda: ring.request(1, 0, 1), ring.settle)[number % 3]()
        before = state(ring)
        self.same(before[3], 300)
        self.refused(TooManyChanges, ring.request, 0, 1, 5)
        self.refused(TooManyChanges, ring.ship, 0, "forward", 5)
        self.refused(TooManyChanges, ring.settle)
        self.refused(NoPort, ring.request, 0, 3, 9)
        self.refused(SamePort, ring.request, 0, 0, 9)
        self.refused(TooFewEmpties, ring.request, 0, 1, 9)
        self.refused(NoPort, ring.ship, 3, "forward", 9)
        self.refused(TooFewEmpties, ring.ship, 0, "forward", 9)
        self.same(state(ring), before)
        self.same(ring.undo(), 299)
        self.same(ring.ship(0, "forward", 5), 15)
        self.refused(TooManyChanges, ring.settle)

    def test_random_changes(self):
        chance = random.Random(1)
        for _ in range(60):
            many = chance.choice((2, 3, 7, 24))
            legs = [(chance.randint(1, 50), chance.randint(1, 50)) for _ in range(many)]
            stock = [chance.randint(0, 9) for _ in range(many)]
            ring, planned, paid, earlier = RingService(legs, stock), list(stock), 0, []
            for _ in range(60):
                before = (list(stock), list(planned), paid)
                start, stop, count = chance.randrange(many), chance.randrange(many), chance.randint(1, 6)
                kind = chance.choice(("request", "request", "ship", "ship", "settle", "undo"))
                if kind == "request" and start != stop and planned[start] >= count:
                    planned[start] -= count
                    planned[stop] += count
                    self.same(ring.request(start, stop, count), planned[stop])
                elif kind == "ship" and stock[start] >= count:
                    forward = chance.random() < 0.5
                    price = count * (legs[start][0] if forward else legs[start - 1][1])
                    stock[start] -= count
                    stock[(start + (1 if forward else -1)) % many] += count
                    paid += price
                    self.same(ring.ship(start, "forward" if forward else "backward", count), price)
                elif kind == "settle":
                    least, flows = optimal_flows(legs, [a - b for a, b in zip(stock, planned)])
                    self.same(cost(legs, flows), least)
                    paid += least
                    stock = list(planned)
                    self.same(ring.settle(), (least, to_moves(flows)))
                elif kind == "undo" and earlier:
                    stock, planned, paid = earlier.pop()
                    self.same(ring.undo(), len(earlier))
                    before = None
                else:
                    continue
                if before:
                    earlier.append(before)
                self.same(state(ring), (tuple(stock), tuple(planned), paid, len(earlier)))
