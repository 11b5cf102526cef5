"""[Q4], [Q5] and quaybest.terminal: the calls for ships, and the reasons for which they are refused, in their order."""

import itertools

from office import HULL, box, code, own, questions, reason_of, served, ship, terminal
from quaybest.lashing import BadRods, BadStack, Gear
from quaybest.quays import Quay
from quaybest.refusals import Refused
from quaybest.stability import Hull
from quaybest.tides import passable_starts
from support import Case

# Hulls that are never stable, that may not have any trim, and that may have at most 100 on board.
UNSTABLE = Hull((1000, 0, 0, 10), ((2, 1000, 200), (40, 9000, 200)), ((300, 0, 5, 1, 2),), height=500, heel=1000, trim=50)
EVEN = Hull((1000, 0, 0, 10), ((2, 1000, 200), (40, 9000, 200)), ((300, 1, 0, 1, 0),), height=1, heel=1000, trim=0)
SMALL = Hull((1000, 0, 0, 10), ((2, 1000, 200), (40, 1100, 200)), ((300, 0, 0, 1, 0),), height=1, heel=1000, trim=50)
# One whose trim is a tenth of what is at 100, less what is at -100, for the most part; it may be 1.
LONG = Hull((1000, 0, 0, 10), ((2, 1000, 200), (40, 9000, 200)), ((30, 100, 0, 1, 0), (30, -100, 0, 1, 0), (30, 0, 0, 1, 0)),
            height=1, heel=1000, trim=1)


class ShipsCase(Case):
    """What these tests have in common."""

    def berthed(self, boxes=(), plan=(), options=None, **more):
        """A terminal with one ship that has berthed."""
        office = terminal(**(options or {}))
        office.add_ship(ship(boxes, plan, **more))
        office.berth(0)
        return office

    def reason(self, office, wanted, call, *args):
        """The call is refused for this reason, and nothing has changed."""
        before = questions(office)
        self.refused(Refused, call, *args, told={"reason": wanted})
        self.same(questions(office), before)

    def wrong_ships(self, office, name, *args):
        """No such ship, no such stack, and a ship that is not berthed, in this order."""
        call = getattr(office, name)
        for number in (-1, 7):
            for stack in (-1, 0, 2):
                self.reason(office, "ship", call, number, stack, *args)
        for stack in (-1, 2):
            self.reason(office, "stack", call, 0, stack, *args)
            self.reason(office, "stack", call, 1, stack, *args)
        for stack in (0, 1):
            self.reason(office, "not berthed", call, 1, stack, *args)


class AddShipTest(ShipsCase):
    """Ships that arrive."""

    def test_add_ship(self):
        office = terminal()
        boxes = [box(1, ports=(0, 7)), box(2, ports=(1, 5)), box(3, ports=(1, 4)), box(4, ports=(2, 9)), box(5, ports=(1, 3))]
        self.same(office.add_ship(ship(boxes, [0, 0, 1, 0, 0])), 0)
        # In port 1 the later a box leaves, the lower it stands; in port 2 one more comes on top.
        self.same(office.stacks(0), ((code(1), code(2), code(5), code(4)), (code(3),)))
        self.same(office.tally(0), {})
        self.same([office.locate(code(number)) for number in (1, 3)], [("ship", 0, 0), ("ship", 0, 1)])
        self.same(office.add_ship(ship()), 1)
        self.same(office.stacks(1), ((), ()))
        self.same(office.crane_log(), ())

    def test_stacks_that_the_plan_leaves_out(self):
        office = terminal()
        office.add_ship(ship([box(1)], [0], places=((0, 0, 0, 5), (1, 0, 0, 5), (2, 0, 0, 5))))
        self.same(office.stacks(0), ((code(1),), (), ()))
        office.add_ship(ship([box(2)], [1], places=((0, 0, 0, 5), (1, 0, 0, 5), (2, 0, 0, 5))))
        self.same(office.stacks(1), ((), (code(2),), ()))

    def test_codes_that_are_known(self):
        office = terminal()
        office.add_ship(ship([box(1), box(2)], [0, 1]))
        for numbers in ([2], [3, 1], [3, 3], [4, 5, 4]):
            self.reason(office, "known", office.add_ship, ship([box(k) for k in numbers], [0] * len(numbers)))
        served(office, box(6))
        self.reason(office, "known", office.add_ship, ship([box(6)], [0]))

    def test_goods_and_formulas_box_by_box(self):
        office = terminal()
        rows = [([box(1, goods=2)], "goods"), ([box(1, goods=-1)], "goods"), ([box(1, formula=2)], "formula"),
                ([box(1, formula=-1)], "formula"), ([box(1, goods=2, formula=2)], "goods"),
                ([box(1), box(2, formula=2), box(3, goods=2)], "formula"), ([box(1, goods=2), box(2, formula=9)], "goods")]
        for boxes, reason in rows:
            self.reason(office, reason, office.add_ship, ship(boxes, [0] * len(boxes)))
        self.same(office.add_ship(ship([box(1, goods=1, formula=1), box(2, goods=1, formula=0)], [0, 1])), 0)

    def test_60_boxes_and_one_more(self):
        office = terminal()
        office.add_ship(ship([box(number) for number in range(59)], [0] * 59, height=99))
        self.reason(office, "boxes", office.add_ship, ship([box(60), box(61)], [0, 0]))
        office.add_ship(ship([box(60)], [0]))
        self.reason(office, "boxes", office.add_ship, ship([box(61)], [0]))
        self.same(office.add_ship(ship()), 2)
        truck = office.book(0, 0)
        office.next_hour()
        self.reason(office, "boxes", office.receive, truck, box(61))

    def test_6_ships_and_one_more(self):
        office = terminal()
        for number in range(6):
            self.same(office.add_ship(ship()), number)
        self.reason(office, "ships", office.add_ship, ship())

    def test_the_quay(self):
        office = terminal(bollards=30)
        for position, length in ((21, 10), (0, 31), (30, 1), (99, 1)):
            self.reason(office, "quay", office.add_ship, ship(position=position, length=length, places=((0, 0, 0, 0),)))
        self.same(office.add_ship(ship(position=20, length=10)), 0)
        self.same(office.add_ship(ship(position=0, length=30)), 1)

    def test_high_close_and_unstable(self):
        office = terminal()
        self.reason(office, "high", office.add_ship, ship([box(1), box(2)], [1, 1], height=1))
        # In the stacks 0 and 1 goods of the classes 0 and 0 are 1 apart.
        self.reason(office, "close", office.add_ship, ship([box(1, goods=0), box(2, goods=0)], [0, 1]))
        self.reason(office, "close", office.add_ship, ship([box(1, goods=1), box(2, goods=1)], [0, 0]))
        self.reason(office, "unstable", office.add_ship, ship(hull=UNSTABLE))
        self.reason(office, "unstable", office.add_ship, ship([box(1)], [1], hull=EVEN))
        self.same(office.add_ship(ship([box(1), box(2)], [0, 0], hull=EVEN, height=2)), 0)
        self.same(office.add_ship(ship([box(3, goods=1), box(4, goods=1)], [0, 1])), 1)
        three = ((0, 0, 0, 5), (1, 0, 0, 5), (2, 0, 0, 5), (3, 0, 0, 5))
        self.same(office.add_ship(ship([box(5, goods=0), box(6, goods=0)], [0, 2], places=three)), 2)
        self.reason(office, "close", office.add_ship, ship([box(7, goods=0), box(8, goods=1)], [2, 0], places=three))
        self.same(office.add_ship(ship([box(7, goods=0), box(8, goods=1)], [3, 0], places=three)), 3)

    def test_weights_at_their_places(self):
        # The heel is 6 / (1006 * height), the height 1 - (10000 + 6 * z) / 1006 + 10.
        hull = Hull((1000, 0, 0, 10), ((2, 1000, 11), (4, 2000, 11)), (), height=1, heel=1000, trim=50)
        office = terminal()
        office.add_ship(ship([box(1, weight=6)], [0], hull=hull, places=((0, 0, 0, 10),)))
        self.reason(office, "unstable", office.add_ship, ship([box(2, weight=6)], [0], hull=hull, places=((0, 0, 0, 11),)))
        places = ((0, 0, 0, 4),)
        self.same(office.add_ship(ship([box(3, weight=6), box(4, weight=6)], [0, 0], hull=hull, places=places, tier=12)), 1)
        self.reason(office, "unstable", office.add_ship, ship([box(5, weight=6), box(6, weight=6)], [0, 0], hull=hull,
                                                              places=places, tier=13))

    def test_first_reason(self):
        faults = ("known", "goods", "boxes", "ships", "quay", "high", "close", "unstable")
        for wrong in itertools.product((False, True), repeat=len(faults)):
            told = [fault for fault, is_wrong in zip(faults, wrong) if is_wrong]
            office = terminal()
            many = 58 if "boxes" in told else 2
            office.add_ship(ship([box(number) for number in range(many)], [0] * many, height=99))
            for _ in range(5 if "ships" in told else 0):
                office.add_ship(ship())
            boxes = [box(70, goods=0), box(71, goods=0 if "close" in told else None),
                     box(1 if "known" in told else 72, goods=7 if "goods" in told else None)]
            arrival = ship(boxes, [0, 1, 1], position=25 if "quay" in told else 2, height=1 if "high" in told else 2,
                           hull=UNSTABLE if "unstable" in told else HULL)
            self.same(reason_of(office.add_ship, arrival), told[0] if told else None)


class BerthTest(ShipsCase):
    """Ships that berth."""

    def test_berth(self):
        office = terminal()
        for position in (0, 10, 9, 0):
            office.add_ship(ship(position=position))
        office.tick()
        self.same(office.berth(1), 1)
        self.reason(office, "earlier", office.berth, 2)
        self.same(office.berth(0), 1)
        self.reason(office, "berthed", office.berth, 0)
        self.reason(office, "earlier", office.berth, 3)
        for number in (-1, 4):
            self.reason(office, "ship", office.berth, number)
        office.tick()
        self.same(office.sail(0), 2)
        self.reason(office, "berthed", office.berth, 0)
        self.reason(office, "earlier", office.berth, 2)
        self.same(office.sail(1), 2)
        # Ship 2 has not berthed, but arrived ahead of ship 3.
        self.reason(office, "earlier", office.berth, 3)
        self.same(office.berth(2), 2)
        office.tick()
        office.sail(2)
        self.same(office.berth(3), 3)

    def test_bollards_in_common(self):
        office = terminal()
        for position, length in ((5, 5), (0, 5), (10, 5), (9, 1)):
            office.add_ship(ship(position=position, length=length, places=((0, 0, 0, 0),)))
        self.same([office.berth(number) for number in (1, 2)], [0, 0])
        self.reason(office, "earlier", office.berth, 3)

    def test_berthing_times(self):
        office = terminal()
        self.same(office.berthing_times(), ())
        rows = [(0, 10, 7), (5, 10, 30), (15, 5, 4), (12, 6, 9)]
        quay = Quay(30)
        for position, length, stay in rows:
            office.add_ship(ship(position=position, length=length, stay=stay, places=((0, 0, 0, 0),)))
            quay.arrive((position, length, office.now(), stay))
            office.tick()
        self.same(office.berthing_times(), tuple(enumerate(quay.starts())))
        self.same(office.berthing_times(), ((0, 0), (1, 7), (2, 2), (3, 37)))
        office.berth(2)
        self.same(office.berthing_times(), ((0, 0), (1, 7), (2, 4), (3, 37)))
        office.berth(0)
        self.same(office.berthing_times(), ((0, 4), (1, 11), (2, 4), (3, 41)))
        office.tick()
        office.sail(0)
        self.same(office.berthing_times(), ((1, 1), (2, 4), (3, 31)))
        office.sail(2)
        self.same(office.berthing_times(), ((1, 1), (3, 31)))


class LiftTest(ShipsCase):
    """Boxes that are lifted and put back."""

    def test_lift_and_restow(self):
        boxes = [own(1, value=50), box(2, ports=(2, 5)), box(3, ports=(2, 4)), own(4)]
        office = self.berthed(boxes, [0, 0, 0, 1])
        self.same(office.stacks(0), ((code(1), code(2), code(3)), (code(4),)))
        self.same(office.lift(0, 0), (code(3), "set aside"))
        self.same(office.locate(code(3)), ("aside", 0, 0))
        self.reason(office, "own box", office.restow, 0, 0)
        self.same(office.lift(0, 0), (code(2), "set aside"))
        self.same(office.tally(0), {code(2): -1, code(3): -1})
        self.same(office.lift(0, 0), (code(1), "discharge"))
        self.same(office.locate(code(1)), ("apron",))
        self.same((office.stacks(0), office.duty_owed()), (((), (code(4),)), (4, 1)))
        self.reason(office, "empty", office.lift, 0, 0)
        self.same(office.restow(0, 0), code(2))
        self.same(office.locate(code(2)), ("ship", 0, 0))
        office.tick()
        self.same(office.restow(0, 0), code(3))
        self.reason(office, "nothing aside", office.restow, 0, 0)
        self.same(office.lift(0, 1), (code(4), "discharge"))
        self.same(office.stacks(0), ((code(2), code(3)), ()))
        self.same(office.tally(0), {code(1): -1, code(4): -1})
        self.same(office.crane_log(), (
            (0, 0, code(3), "set aside", 0, 0), (0, 0, code(2), "set aside", 0, 0), (0, 0, code(1), "discharge", 0, 0),
            (0, 0, code(2), "restow", 0, 0), (0, 0, code(3), "restow", 0, 1), (0, 1, code(4), "discharge", 5, 1)))

    def test_wrong_ships(self):
        office = self.berthed([own(1)], [0])
        office.add_ship(ship([own(2)], [0]))
        self.wrong_ships(office, "lift")
        self.wrong_ships(office, "restow")
        office.lift(0, 0)
        office.tick()
        office.sail(0)
        self.reason(office, "not berthed", office.lift, 0, 0)
        self.reason(office, "not berthed", office.restow, 0, 0)

    def test_lashed_ahead_of_no_box(self):
        office = self.berthed([box(1)], [0], places=((3, 0, 0, 5),))
        self.reason(office, "no box", office.lift, 0, 0)
        office.lash(0, 0, [0])
        self.reason(office, "lashed", office.lift, 0, 0)
        office.lash(0, 0, None)
        self.reason(office, "no box", office.lift, 0, 0)

    def test_a_crane_beside_the_place(self):
        places = ((3, 0, 0, 5), (0, 0, 0, 5))
        office = self.berthed([own(1)], [0], position=2, places=places, options={"cranes": (2, 6)})
        self.reason(office, "crane", office.lift, 0, 0)
        # Its place is at 5: 2 to the ship's first bollard, and 3 from there.
        office.move_crane(1, 5)
        self.reason(office, "crane", office.lift, 0, 0)
        office.tick()
        self.same(office.lift(0, 0), (code(1), "discharge"))
        self.same(office.crane_log(), ((0, 0, code(1), "discharge", 5, 1),))

    def test_bollards_beyond_the_rail(self):
        office = self.berthed([own(1)], [0], position=195, options={"bollards": 500, "cranes": (0, 200)},
                              places=((6, 0, 0, 5),))
        self.reason(office, "crane", office.lift, 0, 0)

    def test_first_reason_of_a_lift(self):
        # The ship is even with both boxes alone; the duty of box 1 is above the bond.
        for crane, trim, bond in itertools.product((False, True), repeat=3):
            places = ((1 if crane else 0, 1, 0, 5), (5, -1, 0, 5))
            boxes = [own(1, value=1000 if bond else 0), box(2)]
            office = self.berthed(boxes, [0, 1], places=places, hull=EVEN if trim else HULL, options={"bond": 79})
            self.reason(office, "no box", office.lift, 0, 1)
            wanted = "crane" if crane else "unstable" if trim else "bond" if bond else None
            if wanted:
                self.reason(office, wanted, office.lift, 0, 0)
            else:
                self.same(office.lift(0, 0), (code(1), "discharge"))

    def test_the_other_stacks_stay(self):
        # The ship is even with the boxes 2 and 3, wherever the boxes of the middle line are.
        places = ((0, 0, 0, 5), (5, 1, 0, 5), (9, -1, 0, 5))
        boxes = [own(1, weight=7), box(2), box(3)]
        office = self.berthed(boxes, [0, 1, 2], places=places, hull=EVEN)
        self.same(office.lift(0, 0), (code(1), "discharge"))
        places = ((5, 1, 0, 5), (9, -1, 0, 5), (0, 0, 0, 5))
        office = self.berthed([box(2), box(3), own(1, weight=7)], [0, 1, 2], places=places, hull=EVEN)
        self.same(office.lift(0, 2), (code(1), "discharge"))

    def test_only_the_top_box_leaves(self):
        boxes = [own(1, weight=7), own(2, weight=5), box(3, weight=15)]
        office = self.berthed(boxes, [0, 0, 1], places=((0, 100, 0, 5), (5, -100, 0, 5)), hull=LONG)
        self.same(office.lift(0, 0), (code(2), "discharge"))
        self.reason(office, "unstable", office.lift, 0, 0)

    def test_a_box_set_aside_needs_no_bond(self):
        office = self.berthed([own(1, value=1000), box(2, ports=(2, 5), value=9999)], [0, 0], options={"bond": 80})
        self.same(office.lift(0, 0), (code(2), "set aside"))
        self.same(office.lift(0, 0), (code(1), "discharge"))

    def test_a_duty_just_at_the_bond(self):
        # The duties are 8 / 100 of the values, or 500 kilos for half of (1 per kg).
        boxes = [own(1, value=1000), own(2, formula=1), own(3, value=1)]
        office = self.berthed(boxes, [0, 0, 1], options={"bond": 579})
        self.same(office.lift(0, 1), (code(3), "discharge"))
        self.same(office.stacks(0)[0], (code(1), code(2)))
        self.same(office.lift(0, 0), (code(2), "discharge"))
        self.same(office.duty_owed(), (12502, 25))
        self.reason(office, "bond", office.lift, 0, 0)
        self.same(office.raise_bond(1), 580)
        self.reason(office, "bond", office.lift, 0, 0)
        self.same(office.raise_bond(1), 581)
        self.same(office.lift(0, 0), (code(1), "discharge"))
        self.same(office.duty_owed(), (14502, 25))
        for bond, reason in ((80, None), (79, "bond")):
            office = self.berthed([own(1, value=1000)], [0], options={"bond": bond})
            self.same(reason_of(office.lift, 0, 0), reason)

    def test_first_reason_of_a_restow(self):
        for has_own, crane, heavy in itertools.product((False, True), repeat=3):
            boxes = [own(1, weight=20)] * has_own + [own(2, weight=20), box(3, ports=(2, 5), weight=60)]
            office = self.berthed(boxes, [0] * len(boxes), places=((2, 0, 0, 5),), hull=SMALL, options={"cranes": (2, 9)})
            self.reason(office, "nothing aside", office.restow, 0, 0)
            office.lift(0, 0)
            office.lift(0, 0)
            if heavy:
                office.fill(0, 0, 41 - 20 * has_own)
            if crane:
                office.move_crane(0, 1)
                office.tick()
            wanted = "own box" if has_own else "crane" if crane else "unstable" if heavy else None
            if wanted:
                self.reason(office, wanted, office.restow, 0, 0)
            else:
                self.same(office.restow(0, 0), code(3))


class StowTest(ShipsCase):
    """Boxes that are put on board."""

    def test_stow(self):
        office = self.berthed([box(1)], [0])
        codes = served(office, box(2, ports=(3, 4)), box(3, ports=(3, 11)), box(4, ports=(3, 5)))
        self.same(office.stow(0, 0, codes[0]), 2)
        self.same(office.stow(0, 1, codes[1]), 1)
        office.tick()
        self.same(office.stow(0, 0, codes[2]), 3)
        self.same(office.stacks(0), ((code(1), code(2), code(4)), (code(3),)))
        self.same(office.tally(0), {code(2): 1, code(3): 1, code(4): 1})
        self.same(office.locate(code(3)), ("ship", 0, 1))
        self.same(office.crane_log(), ((0, 0, code(2), "load", 0, 0), (0, 1, code(3), "load", 5, 0), (0, 0, code(4), "load", 0, 1)))
        self.reason(office, "not available", office.stow, 0, 0, code(2))

    def test_wrong_ships(self):
        office = self.berthed()
        office.add_ship(ship())
        for text in (code(9), "x"):
            self.wrong_ships(office, "stow", text)
        self.reason(office, "unknown", office.stow, 0, 0, code(9))
        self.reason(office, "unknown", office.stow, 0, 0, "x")

    def test_not_available(self):
        office = self.berthed([own(1), box(5, ports=(2, 6))], [0, 0])
        office.add_ship(ship([box(4)], [0]))
        codes = served(office, box(2, ports=(3, 4)), box(3, ports=(3, 4)))
        office.to_yard(codes[0], 0)
        office.to_yard(codes[1], 0)
        office.lift(0, 0)
        # Below another one in the yard, set aside, and on board of another ship.
        for text in (codes[0], code(5), code(4), code(1)):
            self.reason(office, "not available", office.stow, 0, 1, text)
        self.same(office.stow(0, 1, codes[1]), 1)
        self.same(office.stow(0, 1, codes[0]), 2)

    def test_first_reason(self):
        faults = ("other ship", "not ready", "full", "crane", "close", "unstable")
        for wrong in itertools.product((False, True), repeat=len(faults)):
            told = [fault for fault, is_wrong in zip(faults, wrong) if is_wrong]
            below = own(1, weight=5) if "not ready" in told else box(1, weight=5)
            office = self.berthed([below, box(2, goods=0, weight=5)], [0, 1], height=1 if "full" in told else 2,
                                  places=((1 if "crane" in told else 0, 0, 0, 5), (5, 0, 0, 5)), hull=SMALL)
            ports = (2, 4) if "other ship" in told else (3, 4)
            fresh = box(3, ports=ports, goods=0 if "close" in told else None, weight=91 if "unstable" in told else 90)
            served(office, fresh)
            if told:
                self.reason(office, told[0], office.stow, 0, 0, code(3))
            else:
                self.same(office.stow(0, 0, code(3)), 2)

    def test_something_is_set_aside(self):
        office = self.berthed([own(1), box(2, ports=(2, 6))], [0, 0])
        served(office, box(3, ports=(3, 4)))
        self.reason(office, "not ready", office.stow, 0, 0, code(3))
        office.lift(0, 0)
        office.lift(0, 0)
        self.same(office.stacks(0), ((), ()))
        self.reason(office, "not ready", office.stow, 0, 0, code(3))
        office.restow(0, 0)
        self.same(office.stow(0, 0, code(3)), 2)

    def test_lashed(self):
        office = self.berthed([box(1)], [0], height=1, places=((1, 0, 0, 5),))
        served(office, box(2, ports=(3, 4)), box(3, ports=(2, 4)))
        self.reason(office, "full", office.stow, 0, 0, code(2))
        office.lash(0, 0, [0])
        self.reason(office, "lashed", office.stow, 0, 0, code(2))
        self.reason(office, "other ship", office.stow, 0, 0, code(3))

    def test_goods_that_were_set_aside_count(self):
        three = ((0, 0, 0, 5), (5, 0, 0, 5))
        office = self.berthed([own(1), box(2, ports=(2, 6), goods=0)], [0, 0], places=three)
        served(office, box(3, ports=(3, 4), goods=0), box(4, ports=(3, 4)))
        office.lift(0, 0)
        self.same(office.locate(code(2)), ("aside", 0, 0))
        self.reason(office, "close", office.stow, 0, 1, code(3))
        self.same(office.stow(0, 1, code(4)), 1)
        office.lift(0, 0)
        self.same(office.restow(0, 0), code(2))

    def test_a_box_that_comes_from_another_ship(self):
        office = self.berthed([own(1, value=100)], [0])
        office.add_ship(ship(position=10, port=1))
        office.berth(1)
        office.lift(0, 0)
        office.move_crane(1, 10)
        for _ in range(5):
            office.tick()
        self.same(office.duty_owed(), (8, 1))
        # A ship can take it away whatever customs say; then it owes nothing any more.
        self.same(office.stow(1, 0, code(1)), 1)
        self.same((office.duty_owed(), office.locate(code(1))), ((0, 1), ("ship", 1, 0)))
        self.same((office.tally(0), office.tally(1)), ({code(1): -1}, {code(1): 1}))
        self.same(office.pay(code(1)), (8, 1))


class FillTest(ShipsCase):
    """Tanks."""

    def test_fill(self):
        office = self.berthed()
        self.same(office.fill(0, 0, 300), 300)
        self.same(office.fill(0, 1, 0), 0)
        self.same(office.fill(0, 0, 0), 0)
        self.same(office.journal()[-3:], (("fill", 0, 0, 300), ("fill", 0, 1, 0), ("fill", 0, 0, 0)))

    def test_reasons(self):
        office = self.berthed(hull=SMALL)
        office.add_ship(ship(hull=SMALL))
        for number in (-1, 2):
            self.reason(office, "ship", office.fill, number, 9, -1)
        for tank in (-1, 1):
            self.reason(office, "tank", office.fill, 0, tank, -1)
            self.reason(office, "tank", office.fill, 1, tank, 5)
        for amount in (-1, 301):
            self.reason(office, "amount", office.fill, 0, 0, amount)
            self.reason(office, "amount", office.fill, 1, 0, amount)
        self.reason(office, "not berthed", office.fill, 1, 0, 300)
        self.reason(office, "unstable", office.fill, 0, 0, 101)
        self.same(office.fill(0, 0, 100), 100)
        self.reason(office, "unstable", office.fill, 0, 0, 300)
        office.tick()
        office.sail(0)
        self.reason(office, "not berthed", office.fill, 0, 0, 5)

    def test_water_counts(self):
        office = self.berthed([box(1)], [1], hull=HULL)
        office.fill(0, 1, 200)
        served(office, box(2, ports=(3, 4)))
        # With 200 at 3 the trim is 600 / 1200 and more; the tank 0 at y = 5 makes a heel.
        self.same(office.fill(0, 0, 150), 150)
        even = self.berthed([own(1, weight=10), box(2, weight=10)], [0, 1], places=((0, 1, 0, 5), (5, -1, 0, 5)), hull=EVEN)
        self.reason(even, "unstable", even.lift, 0, 0)
        self.reason(even, "unstable", even.fill, 0, 0, 1)


    def test_the_other_tanks_stay(self):
        office = self.berthed(hull=LONG)
        for tank, amount in ((0, 10), (1, 20), (0, 30), (1, 30), (0, 25)):
            self.same(office.fill(0, tank, amount), amount)
        self.reason(office, "unstable", office.fill, 0, 0, 0)
        self.same(office.fill(0, 2, 30), 30)
        self.reason(office, "unstable", office.fill, 0, 1, 0)


class LashTest(ShipsCase):
    """Rods."""

    def test_lash(self):
        office = self.berthed([box(1), box(2, ports=(1, 4))], [0, 0])
        self.same(office.lash(0, 0, [1, 0]), None)
        self.same(office.lash(0, 0, (0, 3)), None)
        self.same(office.lash(0, 0, None), None)
        self.same(office.journal()[-3:], (("lash", 0, 0, (1, 0)), ("lash", 0, 0, (0, 3)), ("lash", 0, 0, None)))

    def test_wrong_ships(self):
        office = self.berthed([box(1)], [0])
        office.add_ship(ship([box(2)], [0]))
        for rods in (None, [0], [9, 9]):
            self.wrong_ships(office, "lash", rods)

    def test_empty_and_not_ready(self):
        for rods in (None, [9], [9, 9, 9]):
            office = self.berthed([own(1), box(2, ports=(2, 6))], [0, 0])
            self.reason(office, "empty", office.lash, 0, 1, rods)
            self.reason(office, "not ready", office.lash, 0, 0, rods)
            office.lift(0, 0)
            self.reason(office, "not ready", office.lash, 0, 0, rods)
            office.lift(0, 0)
            self.reason(office, "empty", office.lash, 0, 0, rods)
            office.restow(0, 0)
            self.same(office.lash(0, 0, None), None)

    def test_wrong_rods(self):
        office = self.berthed([box(1, weight=400), box(2, weight=400)], [0, 0], acceleration=1000)
        before = questions(office)
        for rods, number in (([], None), ([0], None), ([0, 0, 0], None), ([0, 4], 1), ([-1, 4], 0), ([4, 0], 0)):
            self.refused(BadRods, office.lash, 0, 0, rods, told={"number": number})
        self.same(questions(office), before)
        tall = self.berthed([box(number, weight=1) for number in range(10)], [0] * 10, height=10)
        self.refused(BadStack, tall.lash, 0, 0, [0] * 10, told={"number": None})
        self.same(tall.lash(0, 0, None), None)
        short = self.berthed([box(1)], [0], gear=Gear(joint=0, rod=1, reach=0, rods=4, weight=9, post=0))
        self.refused(BadRods, short.lash, 0, 0, [1], told={"number": 0})

    def test_weak(self):
        # At an acceleration of 100 box 1 of 60 has a force of 6000: 5000 and one rod hold it.
        office = self.berthed([box(1, weight=60)], [0], acceleration=100)
        self.reason(office, "weak", office.lash, 0, 0, [0])
        self.same(office.lash(0, 0, [1]), None)
        self.reason(office, "weak", office.lash, 0, 0, [0])
        office.tick()
        self.same(office.sail(0), 1)
        # More than the greatest weight, and more above a box than its posts hold.
        for weights in ((400, 400, 101), (20, 350, 351)):
            boxes = [box(number, weight=weight, ports=(1, 9 - number)) for number, weight in enumerate(weights)]
            office = self.berthed(boxes, [0] * 3, acceleration=1)
            self.reason(office, "weak", office.lash, 0, 0, [0] * 3)
        office = self.berthed([box(1, weight=400), box(2, weight=400), box(3, weight=100)], [0] * 3, acceleration=1)
        self.same(office.lash(0, 0, [0] * 3), None)

    def test_the_order_of_the_weights(self):
        # From the bottom: the one that goes farthest.
        boxes = [box(1, weight=30, ports=(1, 4)), box(2, weight=60, ports=(1, 9))]
        gear = Gear(joint=3000, rod=1000, reach=2, rods=3, weight=900, post=700)
        office = self.berthed(boxes, [0, 0], acceleration=100, gear=gear)
        self.same(office.lash(0, 0, [3, 3]), None)
        self.reason(office, "weak", office.lash, 0, 0, [3, 2])
        self.same(office.lash(0, 0, [3, 3]), None)
        office = self.berthed(boxes[::-1], [0, 0], acceleration=99, gear=gear)
        self.reason(office, "weak", office.lash, 0, 0, [3, 2])
        self.same(office.lash(0, 0, [3, 3]), None)

    def test_what_is_lashed_stays(self):
        office = self.berthed([box(1)], [0])
        served(office, box(2, ports=(3, 4)))
        office.lash(0, 0, [0])
        self.reason(office, "lashed", office.stow, 0, 0, code(2))
        self.reason(office, "lashed", office.lift, 0, 0)
        office.lash(0, 0, None)
        self.same(office.stow(0, 0, code(2)), 2)


class SailTest(ShipsCase):
    """Ships that sail."""

    def test_sail(self):
        office = self.berthed([box(1), own(2)], [0, 1])
        office.lift(0, 1)
        office.lash(0, 0, [0])
        self.reason(office, "this minute", office.sail, 0)
        office.tick()
        self.same(office.sail(0), 1)
        self.reason(office, "not berthed", office.sail, 0)
        self.same((office.stacks(0), office.locate(code(1))), (((code(1),), ()), ("ship", 0, 0)))
        self.same(office.tally(0), {code(2): -1})

    def test_first_reason(self):
        office = terminal()
        office.add_ship(ship())
        self.reason(office, "not berthed", office.sail, 0)
        for number in (-1, 1):
            self.reason(office, "ship", office.sail, number)
        faults = ("this minute", "not ready", "not lashed", "water")
        for wrong in itertools.product((False, True), repeat=len(faults)):
            told = [fault for fault, is_wrong in zip(faults, wrong) if is_wrong]
            tide = ((0, -500), (100000, -500)) if "water" in told else ((0, 0), (100000, 0))
            boxes = [box(1)] + [own(2)] * ("not ready" in told)
            office = self.berthed(boxes, [0, 1][:len(boxes)], options={"tide": tide})
            if "not lashed" not in told:
                office.lash(0, 0, [0])
            if "this minute" not in told:
                office.tick()
            if told:
                self.reason(office, told[0], office.sail, 0)
            else:
                self.same(office.sail(0), 1)

    def test_not_ready_is_told_of_any_stack(self):
        office = self.berthed([box(1), own(2), box(3, ports=(2, 7))], [0, 1, 1])
        office.tick()
        self.reason(office, "not ready", office.sail, 0)
        office.lift(0, 1)
        office.lift(0, 1)
        self.reason(office, "not ready", office.sail, 0)
        office.restow(0, 1)
        self.reason(office, "not lashed", office.sail, 0)
        office.lash(0, 0, [0])
        self.reason(office, "not lashed", office.sail, 0)
        office.lash(0, 1, [0])
        self.same(office.sail(0), 1)

    def test_water_that_is_just_enough(self):
        # The draught is 2 at 1000, and 1 more for each 100: at 1101 the least whole one is 4.
        hull = Hull((1000, 0, 0, 10), ((2, 1000, 200), (40, 4800, 200)), ((300, 0, 0, 1, 0),), height=1, heel=1000, trim=50)
        for amount, depth, reason in ((0, 2, None), (0, 1, "water"), (100, 3, None), (100, 2, "water"), (101, 4, None),
                                      (101, 3, "water"), (200, 4, None)):
            office = self.berthed(hull=hull, options={"sills": ((0, depth),)})
            office.fill(0, 0, amount)
            office.tick()
            self.same(reason_of(office.sail, 0), reason)

    def test_the_weight_of_the_boxes(self):
        hull = Hull((1000, 0, 0, 10), ((2, 1000, 200), (40, 4800, 200)), (), height=1, heel=1000, trim=50)
        for weight, reason in ((100, None), (101, "water")):
            office = self.berthed([box(1, weight=weight)], [0], hull=hull, options={"sills": ((0, 3),)})
            office.lash(0, 0, [0])
            office.tick()
            self.same(reason_of(office.sail, 0), reason)

    def test_sills_later_on_the_way_and_the_time(self):
        # There are 2 of water from the minute 2 to the minute 118; the second sill is passed 70 minutes later.
        tide = ((0, 0), (60, 200), (120, 0), (1000, 0))
        sills = ((0, 0), (70, 0))
        passable = [minute for first, last in passable_starts(tide, sills, 2) for minute in range(first, last + 1)]
        self.assertTrue(1 < passable[0] < passable[-1] < 59)
        for minute in range(1, 60):
            office = self.berthed(options={"tide": tide, "sills": sills})
            for _ in range(minute):
                office.tick()
            self.same(reason_of(office.sail, 0), None if minute in passable else "water")

    def test_the_tide_is_not_defined(self):
        office = self.berthed(options={"tide": ((5, 0), (40, 0)), "sills": ((0, 500), (10, 500))})
        for minute in range(1, 5):
            office.tick()
            self.reason(office, "water", office.sail, 0)
        later = self.berthed(options={"tide": ((5, 0), (40, 0)), "sills": ((0, 500), (10, 500))})
        for _ in range(31):
            later.tick()
        self.reason(later, "water", later.sail, 0)
        office.tick()
        self.same(office.sail(0), 5)

    def test_the_hour_counts(self):
        office = self.berthed(options={"tide": ((61, 0), (90, 0))})
        office.next_hour()
        self.same(office.now(), 60)
        self.reason(office, "water", office.sail, 0)
        office.tick()
        self.same(office.sail(0), 61)

    def test_wrong_ships_in_questions(self):
        office = self.berthed()
        for number in (-1, 1):
            self.refused(Refused, office.stacks, number, told={"reason": "ship"})
            self.refused(Refused, office.tally, number, told={"reason": "ship"})
        self.refused(Refused, office.locate, code(1), told={"reason": "unknown"})
