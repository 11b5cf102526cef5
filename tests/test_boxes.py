"""[Q6], [Q7] and quaybest.terminal: the calls for boxes ashore, trucks, customs and time, and why they are refused."""

import itertools

from office import REEFER, box, code, own, questions, served, ship, terminal
from quaybest.customs import TooManyMessages, UnknownState
from quaybest.gate import Full, NoSlot, NoTruck, Past, TooMany
from quaybest.messages import BadMessage
from quaybest.quays import Quay
from quaybest.rail import CraneRail, HistoryFull, NoCrane, NoPosition
from quaybest.reefers import TooManyStates, shortest_cycle
from quaybest.refusals import Refused
from support import Case


class BoxesCase(Case):
    """What these tests have in common."""

    def discharged(self, office, *boxes):
        """Let a ship bring boxes for here over a place beside crane 0; return their codes."""
        number = sum(entry[0] == "add_ship" for entry in office.journal())
        arrival = ship(boxes, [0] * len(boxes), position=0, height=9, length=1, places=((0, 0, 0, 0),))
        office.add_ship(arrival)
        office.berth(number)
        for _ in boxes:
            office.lift(number, 0)
        office.tick()
        office.sail(number)
        return [container.code for container in boxes]

    def reason(self, office, wanted, call, *args):
        """The call is refused for this reason, and nothing has changed."""
        self.wrong(office, Refused, {"reason": wanted}, call, *args)

    def wrong(self, office, error, told, call, *args):
        """The call raises this error, and nothing has changed."""
        before = questions(office)
        self.refused(error, call, *args, told=told)
        self.same(questions(office), before)


def freed(office, number, weight=10, at=1):
    """Declare a box free: two messages whose numbers go with that of its code."""
    office.declare(("arrive", 100 + number, at, code(number), 100 * weight, "entry"))
    office.declare(("move", 200 + number, at + 1, code(number), 100 * weight, "entry", "free"))


class YardTest(BoxesCase):
    """Boxes in the yard."""

    def test_to_yard(self):
        office = terminal()
        codes = served(office, *[box(number, feet=feet) for number, feet in enumerate((20, 20, 40, 20, 40))])
        self.same([office.to_yard(codes[0], 1), office.to_yard(codes[1], 2), office.to_yard(codes[2], 1)], [0, 0, 1])
        self.same([office.locate(text) for text in codes[:4]], [("yard", 1), ("yard", 2), ("yard", 1), ("apron",)])
        for text, slot in ((codes[3], 1), (codes[3], 2), (codes[4], 0), (codes[4], 2), (codes[4], 3), (codes[3], 4),
                           (codes[3], -1), (codes[4], -1)):
            self.reason(office, "place", office.to_yard, text, slot)
        for text in codes[:2]:
            self.reason(office, "not available", office.to_yard, text, 0)
        self.same(office.to_yard(codes[3], 0), 0)
        self.same(office.to_yard(codes[4], 1), 2)
        self.reason(office, "not available", office.to_yard, codes[2], 0)

    def test_the_height(self):
        office = terminal(height=2)
        codes = served(office, box(1), box(2), box(3))
        self.same([office.to_yard(codes[0], 3), office.to_yard(codes[1], 3)], [0, 1])
        self.reason(office, "place", office.to_yard, codes[2], 3)

    def test_a_box_that_is_moved_within_the_yard(self):
        office = terminal(slots=2, height=2)
        codes = served(office, box(1), box(2), box(3, feet=40))
        office.to_yard(codes[0], 0)
        office.to_yard(codes[1], 0)
        self.reason(office, "not available", office.to_yard, codes[0], 1)
        # Once it is taken, there is room where it stood.
        self.same(office.to_yard(codes[1], 0), 1)
        self.same(office.to_yard(codes[1], 1), 0)
        self.same(office.to_yard(codes[2], 0), 1)
        self.same(office.to_yard(codes[2], 0), 1)
        self.same([office.locate(text) for text in codes], [("yard", 0), ("yard", 1), ("yard", 0)])
        for text in codes[:2]:
            self.reason(office, "not available", office.to_yard, text, 0)

    def test_unknown(self):
        office = terminal()
        self.reason(office, "unknown", office.to_yard, code(1), -1)
        office.add_ship(ship([box(1)], [0]))
        self.reason(office, "not available", office.to_yard, code(1), -1)
        self.refused(Refused, office.locate, code(2), told={"reason": "unknown"})


class PlugsTest(BoxesCase):
    """Refrigerated boxes."""

    def test_to_reefers(self):
        office = terminal()
        codes = served(office, *[box(number, reefer=(*REEFER[:4], number % 4)) for number in range(5)], box(5))
        self.same(office.temperatures(), ())
        self.same([office.to_reefers(text) for text in codes[3::-1]], [1, 2, 3, 4])
        self.same(office.temperatures(), tuple((code(number), number) for number in (3, 2, 1, 0)))
        self.same(office.locate(codes[0]), ("reefers",))
        self.reason(office, "not refrigerated", office.to_reefers, codes[5])
        self.reason(office, "there", office.to_reefers, codes[2])
        self.reason(office, "full", office.to_reefers, codes[4])
        self.reason(office, "unknown", office.to_reefers, code(9))
        office.to_yard(codes[2], 0)
        self.same(office.temperatures(), tuple((code(number), number) for number in (3, 1, 0)))
        self.same(office.to_reefers(codes[2]), 4)
        self.same(office.temperatures(), tuple((code(number), number) for number in (3, 1, 0, 2)))

    def test_a_box_from_the_yard(self):
        office = terminal()
        codes = served(office, box(1, reefer=REEFER), box(2))
        office.to_yard(codes[0], 1)
        self.same(office.to_reefers(codes[0]), 1)
        self.same(office.to_yard(codes[1], 1), 0)

    def test_not_available(self):
        office = terminal()
        office.add_ship(ship([box(9, reefer=REEFER)], [0]))
        codes = served(office, box(1, reefer=REEFER), box(2))
        office.to_yard(codes[0], 0)
        office.to_yard(codes[1], 0)
        for text in (code(9), codes[0]):
            self.reason(office, "not available", office.to_reefers, text)
        office.to_yard(codes[1], 1)
        self.same(office.to_reefers(codes[0]), 1)

    def test_plan(self):
        office = terminal(plugs=1)
        self.reason(office, "empty", office.plan_reefers)
        codes = served(office, box(1, reefer=REEFER), box(2, reefer=REEFER))
        self.reason(office, "empty", office.plan_reefers)
        for text in codes:
            office.to_reefers(text)
        self.same(office.plan_reefers(), (((),), ((), (0,), (1,))))
        # Through its cycle and again.
        found = []
        for _ in range(8):
            office.next_hour()
            found.append(tuple(row[1] for row in office.temperatures()))
        self.same(found, [(1, 1), (2, 2), (0, 3), (1, 1), (2, 2), (0, 3), (1, 1), (2, 2)])

    def test_the_order_of_the_boxes(self):
        office = terminal(plugs=1)
        rows = [(1, 1, 0, 2, 1), (2, 4, 0, 5, 4)]
        codes = served(office, *[box(number, reefer=row) for number, row in enumerate(rows)])
        for text in codes[::-1]:
            office.to_reefers(text)
        self.same(office.plan_reefers(), shortest_cycle(rows[::-1], 1))
        self.assertNotEqual(shortest_cycle(rows[::-1], 1), shortest_cycle(rows, 1))

    def test_plugs(self):
        for plugs in (0, 1, 2):
            office = terminal(plugs=plugs)
            rows = [(1, 1, 0, 1, 0), (1, 1, 0, 1, 0), (1, 1, 0, 1, 1)]
            for text in served(office, *[box(number, reefer=row) for number, row in enumerate(rows)]):
                office.to_reefers(text)
            wanted = shortest_cycle(rows, plugs)
            if wanted is None:
                self.reason(office, "no cycle", office.plan_reefers)
            else:
                self.same(office.plan_reefers(), wanted)
        self.assertIsNotNone(wanted)

    def test_too_many_states_ahead_of_no_cycle(self):
        office = terminal(plugs=0)
        codes = served(office, box(1, reefer=(1, 1, 0, 199, 0)), box(2, reefer=(1, 1, 0, 0, 0)), box(3, reefer=REEFER))
        office.to_reefers(codes[0])
        office.to_reefers(codes[1])
        self.reason(office, "no cycle", office.plan_reefers)
        office.to_reefers(codes[2])
        self.wrong(office, TooManyStates, {}, office.plan_reefers)

    def test_the_plan_is_dropped(self):
        office = terminal(plugs=1)
        codes = served(office, *[box(number, reefer=REEFER) for number in range(4)])
        self.same(office.next_hour(), ())
        office.to_reefers(codes[0])
        self.reason(office, "no plan", office.next_hour)
        office.plan_reefers()
        office.next_hour()
        self.same(office.temperatures(), ((codes[0], 1),))
        # A box is put there, one is taken, and one is taken that was put there last.
        office.to_reefers(codes[1])
        self.reason(office, "no plan", office.next_hour)
        office.plan_reefers()
        office.next_hour()
        office.to_yard(codes[0], 0)
        self.reason(office, "no plan", office.next_hour)
        self.same(office.temperatures(), ((codes[1], 1),))
        office.to_yard(codes[1], 1)
        self.same(office.next_hour(), ())
        # They keep their temperatures.
        office.to_reefers(codes[0])
        office.to_reefers(codes[1])
        self.same(office.temperatures(), ((codes[0], 2), (codes[1], 1)))

    def test_a_new_plan_begins_anew(self):
        office = terminal(plugs=1)
        codes = served(office, box(1, reefer=(1, 1, 0, 3, 3)), box(2, reefer=REEFER))
        office.to_reefers(codes[0])
        self.same(office.plan_reefers(), ((), ((0,), ())))
        office.next_hour()
        self.same(office.plan_reefers(), ((), ((), (0,))))
        office.next_hour()
        self.same(office.temperatures(), ((codes[0], 3),))
        office.next_hour()
        self.same(office.temperatures(), ((codes[0], 2),))

    def test_other_boxes_do_not_drop_the_plan(self):
        office = terminal(plugs=1)
        codes = served(office, box(1, reefer=REEFER), box(2, reefer=REEFER), box(3))
        office.to_reefers(codes[0])
        office.plan_reefers()
        office.to_yard(codes[1], 0)
        office.to_yard(codes[2], 1)
        office.next_hour()
        self.same(office.temperatures(), ((codes[0], 1),))

    def test_containers_are_not_changed(self):
        office = terminal()
        container = box(1, reefer=REEFER)
        served(office, container)
        office.to_reefers(container.code)
        office.plan_reefers()
        office.next_hour()
        self.same((office.temperatures(), container.reefer), (((container.code, 1),), REEFER))
        boxes = [own(2, reefer=REEFER)]
        self.discharged(office, *boxes)
        office.to_reefers(code(2))
        office.plan_reefers()
        office.next_hour()
        self.same((office.temperatures()[1][1], boxes[0].reefer), (1, REEFER))


class TimeTest(BoxesCase):
    """Minutes, hours and cranes."""

    def test_now(self):
        office = terminal()
        self.same(office.now(), 0)
        for minute in range(1, 60):
            self.same(office.tick(), ())
            self.same(office.now(), minute)
        self.reason(office, "hour", office.tick)
        self.same(office.next_hour(), ())
        self.same(office.now(), 60)
        office.tick()
        office.next_hour()
        self.same(office.now(), 120)

    def test_the_last_hour(self):
        office = terminal(quotas=(1, 1))
        truck = office.book(1, 1)
        self.same(office.next_hour(), ())
        self.same(office.next_hour(), (truck,))
        self.same(office.now(), 120)
        self.wrong(office, Past, {}, office.next_hour)
        self.same(office.tick(), ())
        self.same(office.trucks(), (truck,))

    def test_no_plan_ahead_of_past(self):
        office = terminal(quotas=(9,))
        codes = served(office, box(1, reefer=REEFER))
        office.to_reefers(codes[0])
        self.reason(office, "no plan", office.next_hour)
        office.plan_reefers()
        self.wrong(office, Past, {}, office.next_hour)
        self.same(office.temperatures(), ((codes[0], 0),))

    def test_cranes(self):
        office, rail = terminal(), CraneRail(2, (0, 5))
        self.same(office.crane_rows(), ((0, 5),))
        for crane, position in ((1, 0), (0, 4), (1, 200)):
            self.same(office.move_crane(crane, position), rail.send(crane, position))
            for _ in range(4):
                self.same(office.tick(), rail.step())
            self.same(office.crane_rows(), rail.history())
        office.next_hour()
        self.same(office.crane_rows(), rail.history())
        self.same(office.tick(), rail.step())
        for crane in (-1, 2):
            self.wrong(office, NoCrane, {}, office.move_crane, crane, 201)
        for position in (-1, 201):
            self.wrong(office, NoPosition, {}, office.move_crane, 0, position)

    def test_a_full_history(self):
        office = terminal(quotas=(0,) * 44)
        for _ in range(42):
            for _ in range(59):
                office.tick()
            office.next_hour()
        for _ in range(21):
            office.tick()
        self.same(len(office.crane_rows()), 2500)
        self.wrong(office, HistoryFull, {}, office.tick)
        self.same(office.next_hour(), ())
        self.wrong(office, HistoryFull, {}, office.tick)

    def test_the_hour_is_told_ahead_of_a_full_history(self):
        office = terminal(quotas=(0,) * 44)
        for _ in range(21):
            office.tick()
        for _ in range(42):
            office.next_hour()
            for _ in range(59):
                office.tick()
        self.same(len(office.crane_rows()), 2500)
        self.reason(office, "hour", office.tick)


class TrucksTest(BoxesCase):
    """Trucks that come to the gate."""

    def test_book_and_cancel(self):
        office = terminal(quotas=(1, 2, 0))
        self.same([office.book(0, 1), office.book(0, 0), office.book(1, 2)], [0, 1, 2])
        self.wrong(office, Full, {"start": 0, "stop": 0}, office.book, 0, 0)
        self.wrong(office, NoSlot, {}, office.book, 0, 3)
        self.same(office.cancel(1), 2)
        self.wrong(office, NoTruck, {}, office.cancel, 1)
        self.same(office.next_hour(), (0,))
        self.wrong(office, Past, {}, office.book, 0, 0)
        self.wrong(office, NoTruck, {}, office.cancel, 0)
        self.same(office.next_hour(), (2,))
        self.same(office.trucks(), (2,))
        self.same(office.next_hour(), ())
        self.same(office.trucks(), ())

    def test_120_trucks(self):
        office = terminal(quotas=(200,))
        for number in range(120):
            self.same(office.book(0, 0), number)
        self.wrong(office, TooMany, {}, office.book, 0, 0)

    def test_receive(self):
        office = terminal()
        office.add_ship(ship([box(1), box(2)], [0, 1]))
        trucks = [office.book(0, 0) for _ in range(3)]
        self.same(office.next_hour(), tuple(trucks))
        self.same(office.receive(trucks[1], box(3)), 2)
        self.same(office.locate(code(3)), ("apron",))
        self.same(office.trucks(), tuple(trucks))
        self.same(office.receive(trucks[0], box(4)), 3)
        self.same(office.duty_owed(), (0, 1))

    def test_who_is_here(self):
        office = terminal(quotas=(1, 1, 5))
        first, second, third = office.book(0, 0), office.book(0, 1), office.book(2, 2)
        self.same(office.trucks(), ())
        self.reason(office, "not here", office.receive, first, box(1))
        office.next_hour()
        for truck in (second, third, -1, 3):
            self.reason(office, "not here", office.receive, truck, box(1))
            self.reason(office, "not here", office.release, truck, code(9))
        office.receive(first, box(1))
        self.reason(office, "not here", office.receive, first, box(2))
        self.reason(office, "not here", office.release, first, code(1))
        office.next_hour()
        self.same(office.trucks(), (second,))
        office.next_hour()
        # Truck 1 was not served, and is not here any more.
        self.reason(office, "not here", office.receive, second, box(2))
        self.same(office.trucks(), (third,))
        self.same(office.receive(third, box(2)), 1)
        # A truck whose hour was refused to end is still here.
        self.wrong(office, Past, {}, office.next_hour)
        self.same(office.trucks(), (third,))

    def test_first_reason_of_receive(self):
        faults = ("not here", "known", "goods", "formula", "boxes")
        for wrong in itertools.product((False, True), repeat=len(faults)):
            told = [fault for fault, is_wrong in zip(faults, wrong) if is_wrong]
            office = terminal()
            many = 60 if "boxes" in told else 59
            office.add_ship(ship([box(number) for number in range(many)], [0] * many, height=99))
            truck = office.book(0, 0)
            office.next_hour()
            container = box(0 if "known" in told else 99, goods=2 if "goods" in told else 1,
                            formula=2 if "formula" in told else 1)
            truck += "not here" in told
            if told:
                self.reason(office, told[0], office.receive, truck, container)
            else:
                self.same(office.receive(truck, container), 59)

    def test_release(self):
        office = terminal()
        codes = served(office, box(1), box(2), box(3, weight=7))
        for number, weight in ((1, 10), (2, 10), (3, 7)):
            freed(office, number, weight)
        hour = office.now() // 60
        trucks = [office.book(hour, hour) for _ in range(4)]
        office.to_yard(codes[1], 2)
        office.next_hour()
        self.same(office.release(trucks[2], codes[1]), 1)
        self.same(office.locate(codes[1]), ("removed", trucks[2]))
        self.same(office.release(trucks[0], codes[2]), 2)
        self.reason(office, "not here", office.release, trucks[0], codes[0])
        self.reason(office, "not available", office.release, trucks[1], codes[1])
        self.same(office.release(trucks[1], codes[0]), 3)
        self.same(office.irregular(), ())
        # The slot in the yard is empty again.
        self.same(office.receive(trucks[3], box(4)), 3)
        self.same(office.to_yard(code(4), 2), 0)

    def test_first_reason_of_release(self):
        office = terminal()
        self.discharged(office, own(1, value=50), own(2, value=50))
        hour = office.now() // 60
        trucks = [office.book(hour, hour) for _ in range(3)]
        office.to_yard(code(2), 0)
        office.to_yard(code(1), 0)
        office.next_hour()
        self.reason(office, "unknown", office.release, trucks[0], code(9))
        self.reason(office, "not available", office.release, trucks[0], code(2))
        self.reason(office, "not here", office.release, 9, code(9))
        self.reason(office, "unpaid", office.release, trucks[0], code(1))
        office.pay(code(1))
        self.reason(office, "not free", office.release, trucks[0], code(1))
        freed(office, 1)
        self.same(office.release(trucks[0], code(1)), 1)
        freed(office, 2)
        self.reason(office, "unpaid", office.release, trucks[1], code(2))
        self.reason(office, "not here", office.release, trucks[0], code(2))

    def test_a_duty_of_0_has_to_be_paid_too(self):
        office = terminal()
        self.discharged(office, own(1))
        freed(office, 1)
        truck = office.book(0, 0)
        office.next_hour()
        self.same(office.duty_owed(), (0, 1))
        self.reason(office, "unpaid", office.release, truck, code(1))
        self.same(office.pay(code(1)), (0, 1))
        self.same(office.release(truck, code(1)), 1)

    def test_free(self):
        messages = [("arrive", 1, 5, code(1), 999, "entry"), ("move", 2, 6, code(1), 999, "entry", "free"),
                    ("arrive", 3, 7, code(1), 2, "entry"), ("move", 4, 8, code(1), 2, "entry", "free")]
        office = terminal()
        served(office, box(1))
        truck = office.book(1, 1)
        office.next_hour()
        for message in messages:
            self.reason(office, "not free", office.release, truck, code(1))
            office.declare(message)
        # 1001 kilos are too many; 1000 are just its kilos, whatever is elsewhere.
        self.reason(office, "not free", office.release, truck, code(1))
        office.declare(("void", 4))
        office.declare(("move", 5, 8, code(1), 1, "entry", "free"))
        self.same(office.release(truck, code(1)), 1)

    def test_kilos_of_another_item_or_state(self):
        office = terminal(free="bond")
        served(office, box(1), box(2))
        truck = office.book(1, 1)
        office.next_hour()
        freed(office, 1)
        self.reason(office, "not free", office.release, truck, code(1))
        office.declare(("arrive", 1, 1, code(2), 1000, "entry"))
        office.declare(("move", 2, 2, code(2), 1000, "entry", "bond"))
        self.reason(office, "not free", office.release, truck, code(1))
        self.same(office.release(truck, code(2)), 1)

    def test_irregular(self):
        office = terminal()
        codes = served(office, *[box(number) for number in (1, 2, 3)])
        for number in (1, 2, 3):
            freed(office, number)
        trucks = [office.book(1, 1) for _ in range(3)]
        office.next_hour()
        for truck, number in zip(trucks, (2, 1, 3)):
            office.release(truck, code(number))
        self.same(office.irregular(), ())
        self.same(office.declare(("void", 201)), ((), (), (201,)))
        self.same(office.irregular(), (codes[0],))
        office.declare(("arrive", 900, 0, code(2), 5, "entry"))
        office.declare(("move", 901, 9, code(2), 5, "entry", "free"))
        self.same(office.irregular(), (codes[1], codes[0]))
        office.declare(("void", 901))
        self.same(office.irregular(), (codes[0],))
        # A box that is not removed is not irregular.
        self.same(office.locate(codes[2]), ("removed", trucks[2]))


class DutyTest(BoxesCase):
    """Duties, payments and the bond."""

    def test_what_is_owed(self):
        office = terminal(bond=10 ** 6)
        self.same(office.duty_owed(), (0, 1))
        # 8 / 100 of 51, and half of 700 kilos; box 3 came by truck.
        self.discharged(office, own(1, value=51, reefer=REEFER), own(2, formula=1, weight=7))
        served(office, box(3, value=1000))
        self.same(office.duty_owed(), (8852, 25))
        office.to_yard(code(2), 0)
        office.to_reefers(code(1))
        self.same(office.duty_owed(), (8852, 25))
        self.reason(office, "not owed", office.pay, code(3))
        self.reason(office, "unknown", office.pay, code(4))
        self.same(office.pay(code(2)), (350, 1))
        self.reason(office, "paid", office.pay, code(2))
        self.same(office.duty_owed(), (102, 25))
        self.same(office.pay(code(1)), (102, 25))
        self.same(office.duty_owed(), (0, 1))

    def test_boxes_on_board_owe_nothing(self):
        office = terminal()
        office.add_ship(ship([own(1, value=100)], [0]))
        self.reason(office, "not owed", office.pay, code(1))
        self.same(office.duty_owed(), (0, 1))

    def test_the_value_and_the_kilos(self):
        office = terminal(formulas=("8 percent + 3 per kg",), bond=10 ** 6)
        self.discharged(office, own(1, value=25, weight=2))
        self.same((office.duty_owed(), office.pay(code(1))), ((602, 1), (602, 1)))

    def test_bond(self):
        office = terminal(bond=5)
        self.same(office.bond(), 5)
        for by in (0, -1):
            self.reason(office, "bond", office.raise_bond, by)
        self.same((office.raise_bond(1), office.raise_bond(10)), (6, 16))
        self.same(office.bond(), 16)


class DeclareTest(BoxesCase):
    """Messages of customs."""

    def test_declare(self):
        office = terminal()
        self.same(office.declare(["move", 2, 5, "TEA", 3, "entry", "bond"]), ((), (), ()))
        self.same(office.declare(("arrive", 1, 4, "TEA", 3, "entry")), ((), (2,), ()))
        self.same(office.journal(), (("declare", ("move", 2, 5, "TEA", 3, "entry", "bond")),
                                     ("declare", ("arrive", 1, 4, "TEA", 3, "entry"))))

    def test_errors(self):
        office = terminal()
        self.wrong(office, BadMessage, {"reason": "number"}, office.declare, ("void", 0))
        self.wrong(office, UnknownState, {"state": "gone"}, office.declare, ("arrive", 1, 4, "TEA", 3, "gone"))
        for number in range(200):
            office.declare(("void", number + 1))
        self.wrong(office, TooManyMessages, {}, office.declare, ("void", 1))
        self.wrong(office, BadMessage, {"reason": "kind"}, office.declare, ())


class BerthsTest(BoxesCase):
    """Ships of different times."""

    def test_times_in_hours(self):
        office, quay = terminal(), Quay(30)
        office.next_hour()
        office.tick()
        office.add_ship(ship(position=3, length=4, stay=500, places=((0, 0, 0, 0),)))
        quay.arrive((3, 4, 61, 500))
        office.next_hour()
        office.add_ship(ship(position=5, length=4, stay=5, places=((0, 0, 0, 0),)))
        quay.arrive((5, 4, 120, 5))
        self.same(office.berthing_times(), tuple(enumerate(quay.starts())))
        self.same(office.berth(0), 120)
        self.same(office.berthing_times(), ((0, 120), (1, 620)))
