"""[0.2], [Q4] to [Q8] and quaybest.terminal: many calls one after another, and what holds behind each of them."""

import random
from fractions import Fraction

from office import GEAR, GOODS, HULL, REEFER, TABLE, box, code, questions, setup, ship, terminal
from quaybest import customs, lashing, segregation, stability, yard
from quaybest.errors import QuayError
from quaybest.gate import Gate
from quaybest.journals import perform, rebuilt
from quaybest.rail import CraneRail
from quaybest.reefers import shortest_cycle
from quaybest.refusals import Refused
from quaybest.stability import Hull
from support import Case
from trees import pair, told_duty

OPTIONS = {"cranes": (0, 5, 10, 15), "gap": 2, "slots": 3, "height": 2, "plugs": 1, "quotas": (4,) * 12, "bond": 400,
           "tide": ((0, 0), (400, 300), (100000, 0)), "sills": ((0, 1), (20, 0))}
SMALL = Hull((1000, 0, 0, 10), ((2, 1000, 200), (40, 1200, 200)), ((60, 0, 0, 1, 0),), height=1, heel=30, trim=50)
TREES = (("percent", 8), ("half", ("kilo", 1)))


class Watch:
    """What is known of a terminal by the answers of its calls alone, and by the words of part Q."""

    def __init__(self, office):
        self.office = office
        self.boxes = {}
        self.where = {}
        self.ships = []
        self.discharged, self.paid, self.messages, self.left = [], [], [], []
        self.aside = {}
        self.rods = {}
        self.tallies = []
        self.fills = []
        self.sailed = []
        self.yard = ((),) * OPTIONS["slots"]
        self.plugs = []
        self.bond = OPTIONS["bond"]
        self.rail, self.gate = CraneRail(OPTIONS["gap"], OPTIONS["cranes"]), Gate(OPTIONS["quotas"])
        self.log = []
        self.journal = []

    def note(self, entry, answer):
        """Note a call that returned."""
        self.journal.append(entry)
        getattr(self, "note_" + entry[0], lambda *args: None)(*entry[1:], answer)

    def know(self, container, where):
        self.boxes[container.code] = container
        self.where[container.code] = where

    def note_add_ship(self, arrival, answer):
        self.ships.append([list(stack) for stack in self.office.stacks(answer)])
        for place, container in enumerate(arrival.boxes):
            self.know(container, ("ship", answer, arrival.plan[place]))
        for stack in range(len(arrival.places)):
            self.aside[answer, stack] = []
            self.rods[answer, stack] = None
        self.tallies.append({})
        self.fills.append([0] * len(arrival.hull.tanks))
        self.arrivals = [entry[1] for entry in self.journal if entry[0] == "add_ship"]

    def note_move_crane(self, crane, position, answer):
        assert self.rail.send(crane, position) == answer

    def note_tick(self, answer):
        assert self.rail.step() == answer

    def note_book(self, start, stop, answer):
        assert self.gate.book(start, stop) == answer

    def note_cancel(self, truck, answer):
        assert self.gate.cancel(truck) == answer

    def note_next_hour(self, answer):
        assert self.gate.advance() == answer

    def worked(self, ship_number, stack, text, word, by):
        arrival = self.arrivals[ship_number]
        position = arrival.position + arrival.places[stack][0]
        self.log.append((ship_number, stack, text, word, position, len(self.rail.history()) - 1))
        self.tallies[ship_number][text] = self.tallies[ship_number].get(text, 0) + by
        assert position in self.rail.positions()

    def note_lift(self, ship_number, stack, answer):
        text, word = answer
        assert self.ships[ship_number][stack].pop() == text
        is_own = self.boxes[text].ports[1] == self.arrivals[ship_number].port
        assert word == ("discharge" if is_own else "set aside")
        if is_own:
            self.where[text] = ("apron",)
            self.discharged.append(text)
        else:
            self.where[text] = ("aside", ship_number, stack)
            self.aside[ship_number, stack].append(text)
        self.worked(ship_number, stack, text, word, -1)

    def note_restow(self, ship_number, stack, answer):
        assert self.aside[ship_number, stack].pop() == answer
        self.ships[ship_number][stack].append(answer)
        self.where[answer] = ("ship", ship_number, stack)
        self.worked(ship_number, stack, answer, "restow", 1)

    def note_stow(self, ship_number, stack, text, answer):
        self.take(text)
        self.ships[ship_number][stack].append(text)
        self.where[text] = ("ship", ship_number, stack)
        assert len(self.ships[ship_number][stack]) == answer
        self.worked(ship_number, stack, text, "load", 1)

    def take(self, text):
        number = list(self.boxes).index(text)
        assert self.where[text][0] in ("apron", "yard", "reefers")
        if self.where[text][0] == "yard":
            assert not yard.above(self.yard, number)
        self.yard = tuple(tuple(other for other in column if other != number) for column in self.yard)
        self.plugs = [other for other in self.plugs if other != text]

    def note_fill(self, ship_number, tank, amount, answer):
        self.fills[ship_number][tank] = amount
        assert answer == amount

    def note_lash(self, ship_number, stack, rods, answer):
        self.rods[ship_number, stack] = rods
        assert answer is None

    def note_sail(self, ship_number, answer):
        self.sailed.append(ship_number)
        for stack, codes in enumerate(self.ships[ship_number]):
            assert not self.aside[ship_number, stack]
            assert not codes or self.rods[ship_number, stack] is not None
            assert all(self.boxes[text].ports[1] != self.arrivals[ship_number].port for text in codes)

    def note_to_yard(self, text, slot, answer):
        self.take(text)
        number = list(self.boxes).index(text)
        feet = self.boxes[text].feet
        assert slot in yard.allowed_slots(self.yard, OPTIONS["height"], feet)
        covered = range(slot, slot + feet // 20)
        self.yard = tuple((*column, number) if at in covered else column for at, column in enumerate(self.yard))
        self.where[text] = ("yard", slot)
        assert answer == len(self.yard[slot]) - 1

    def note_to_reefers(self, text, answer):
        self.take(text)
        self.plugs.append(text)
        self.where[text] = ("reefers",)
        assert answer == len(self.plugs) <= 4

    def note_receive(self, truck, container, answer):
        assert answer == len(self.boxes)
        self.know(container, ("apron",))

    def note_release(self, truck, text, answer):
        assert self.is_free(text)
        assert text not in self.discharged or text in self.paid
        self.take(text)
        self.where[text] = ("removed", truck)
        self.left.append(text)
        assert answer == len(self.left)

    def note_declare(self, message, answer):
        assert answer == customs.effect_of(TABLE, self.messages, message)
        self.messages.append(message)

    def note_pay(self, text, answer):
        self.paid.append(text)
        assert answer == pair(self.duty(text))

    def note_raise_bond(self, by, answer):
        self.bond += by

    def duty(self, text):
        container = self.boxes[text]
        return told_duty(TREES[container.formula], container.value, 100 * container.weight)

    def owed(self):
        return sum((self.duty(text) for text in self.discharged if text not in self.paid
                    and self.where[text][0] in ("apron", "yard", "reefers")), Fraction(0))

    def is_free(self, text):
        balances = customs.ledger(TABLE, self.messages)[0]
        return dict((row[:2], row[2]) for row in balances).get((text, "free")) == 100 * self.boxes[text].weight

    def answers(self):
        """What the questions should answer, as far as it is known."""
        return {"places": self.where, "stacks": [tuple(tuple(stack) for stack in stacks) for stacks in self.ships],
                "tallies": [{text: row[text] for text in sorted(row) if row[text]} for row in self.tallies],
                "irregular": tuple(text for text in self.left if not self.is_free(text)), "owed": pair(self.owed()),
                "bond": self.bond, "log": tuple(self.log), "rows": self.rail.history(), "journal": tuple(self.journal)}

    def is_sound(self):
        """[0.2] for each ship: stable, segregated, its lashed stacks hold."""
        for number, (arrival, stacks) in enumerate(zip(self.arrivals, self.ships) if self.ships else ()):
            loads = [(self.boxes[text].weight, x, y, z + tier * arrival.tier) for (_, x, y, z), stack
                     in zip(arrival.places, stacks) for tier, text in enumerate(stack)]
            row = [(self.boxes[text].goods, stack) for stack, codes in enumerate(stacks)
                   for text in [*codes, *self.aside[number, stack]] if self.boxes[text].goods is not None]
            if stability.violations(arrival.hull, loads, self.fills[number]) or segregation.violations(GOODS, row):
                return False
            for stack, codes in enumerate(stacks):
                weights, rods = [self.boxes[text].weight for text in codes], self.rods[number, stack]
                if rods is not None and lashing.violations(weights, arrival.gear, rods, arrival.acceleration) != (False, (), ()):
                    return False
                if len(codes) > arrival.height:
                    return False
        return True


def some_box(chance, number, most):
    """A box whose ports are around the port 3."""
    start = chance.choice((1, 2, 3)) if most else chance.choice((1, 2))
    # Those that are for port 3 stand below the others for the most part.
    stop = chance.choice({1: (3, 3, 3, 4), 2: (3, 4, 5, 5), 3: (4, 5)}[start])
    return box(number, feet=chance.choice((20, 20, 40)), weight=chance.choice((3, 10, 60)),
               ports=(start, stop), goods=chance.choice((None,) * 6 + (0, 1)), reefer=(*REEFER[:4], chance.randint(0, 3)),
               formula=chance.choice((0, 1)), value=chance.choice((0, 100, 777)))


def some_ship(chance, numbers):
    boxes = [some_box(chance, number, False) for number in numbers]
    return ship(boxes, [chance.choice((0, 1)) for _ in boxes], position=chance.choice((0, 10)), tier=chance.choice((2, 3)),
                hull=chance.choice((HULL, SMALL)), places=((0, 0, 0, 5), (5, chance.choice((0, 1)), 2, 5)),
                height=chance.choice((3, 4)), acceleration=chance.choice((10, 60)), gear=GEAR)


def some_call(chance, office, watch):
    """The name and the arguments of a call that may well return."""
    codes = [text for text, where in watch.where.items() if where[0] in ("apron", "yard", "reefers")] or [code(0)]
    ships, stack, text = max(len(watch.ships), 1), chance.choice((0, 1)), chance.choice(codes)
    number, hour = chance.randrange(ships), office.now() // 60
    kind = chance.choice(NAMES)
    aside = [place for place, texts in watch.aside.items() if texts]
    lying = [other for other in range(len(watch.ships)) if other not in watch.sailed and ("berth", other) in watch.journal]
    if lying and chance.random() < 0.7 and kind != "restow":
        number = chance.choice(lying)
        owning = [at for at, texts in enumerate(watch.ships[number]) if any(watch.boxes[it].ports[1] == 3 for it in texts)]
        stack = chance.choice(owning) if owning and kind == "lift" else stack
    if aside and (kind == "restow" or kind == "lift" and chance.random() < 0.8):
        number, stack = chance.choice(aside)
    if kind == "stow":
        text = chance.choice([other for other in codes if other in watch.boxes and watch.boxes[other].ports[0] == 3] or codes)
    trucks = office.trucks() or (0,)
    fresh = len(watch.boxes) + 100
    item = chance.choice(list(watch.where)) if watch.where else code(0)
    kilos = 100 * watch.boxes[item].weight if item in watch.boxes else 100
    # Each box has two numbers, so that many are free by and by; a few messages are of another one's number.
    first = 2 * list(watch.where).index(item) + 1 if watch.where else 1
    act = chance.choice((*[("arrive", first, 5, item, kilos, "entry"), ("move", first + 1, 9, item, kilos, "entry", "free")] * 4,
                         ("void", first), ("move", first + 3, 7, item, kilos, "entry", "free")))
    arguments = {
        "add_ship": (some_ship(chance, range(fresh, fresh + chance.randint(0, 7))),) if kind == "add_ship" else (),
        "berth": (number,), "move_crane": chance.choice(((0, 0), (0, 2), (1, 5), (1, 5), (1, 7), (2, 10), (3, 15), (3, 14))), "tick": (),
        "lift": (number, stack), "restow": (number, stack), "stow": (number, stack, text),
        "fill": (number, chance.choice((0, 1)), chance.choice((0, 10, 50))),
        "lash": (number, stack, chance.choice((None, (0,) * len(office.stacks(number)[stack]) if watch.ships else (0,),
                                               [1] * len(office.stacks(number)[stack]) if watch.ships else (0,)))),
        "sail": (number,), "to_yard": (text, chance.randrange(3)), "to_reefers": (text,), "plan_reefers": (),
        "next_hour": (), "book": (hour, min(hour + 1, 11)), "cancel": (chance.randrange(9),),
        "receive": (chance.choice(trucks), some_box(chance, fresh, True)) if kind == "receive" else (),
        "release": (chance.choice(trucks), chance.choice([it for it in codes if it in watch.boxes and watch.is_free(it)] or codes)),
        "declare": (act,), "pay": (chance.choice([item, *watch.discharged]),), "raise_bond": (chance.choice((0, 40)),)}
    return kind, arguments[kind]


NAMES = ("add_ship berth berth move_crane tick tick lift lift lift lift lift lift lift restow restow restow stow stow stow fill "
         "lash lash lash lash sail sail sail to_yard to_yard to_reefers plan_reefers plan_reefers next_hour book book book cancel receive "
         "receive receive receive release release release release declare declare declare declare declare declare pay pay "
         "raise_bond").split()


class WalkTest(Case):
    """Random calls."""

    def test_walks(self):
        done, refusals = {}, {}
        for seed in range(60):
            self.walk(random.Random(seed), done, refusals)
        self.assertEqual(set(NAMES) - {name for name, many in done.items() if many > 9}, set())
        self.assertGreater(len(refusals), 40)

    def walk(self, chance, done, refusals):
        office = terminal(**OPTIONS)
        watch = Watch(office)
        twin = rebuilt_now = None
        for step in range(330):
            name, arguments = some_call(chance, office, watch)
            before = questions(office)
            try:
                answer = getattr(office, name)(*arguments)
            except QuayError as error:
                refusals[name, getattr(error, "reason", error.__class__.__name__)] = True
                self.assertEqual(questions(office), before)
                if twin:
                    with self.assertRaises(error.__class__):
                        getattr(twin, name)(*arguments)
                continue
            done[name] = done.get(name, 0) + 1
            entry = (name, *[tuple(value) if isinstance(value, list) else value for value in arguments])
            watch.note(entry, answer)
            found = questions(office)
            for key, value in watch.answers().items():
                self.assertEqual(found[key], value, key)
            self.assertTrue(watch.is_sound())
            self.check_boxes(office, watch)
            if twin:
                self.same(getattr(twin, name)(*arguments), answer)
                self.assertEqual(questions(twin), found)
            if step in (120, 121, 122) and not rebuilt_now:
                # A terminal that is rebuilt from the journal answers alike, and goes on alike.
                twin = rebuilt_now = rebuilt(setup(**OPTIONS), office.journal())
                self.assertEqual(questions(twin), found)
        self.assertEqual(questions(rebuilt(setup(**OPTIONS), office.journal())), questions(office))

    def check_boxes(self, office, watch):
        """No box is lost or there twice."""
        stowed = [text for stacks in watch.ships for stack in stacks for text in stack]
        aside = [text for texts in watch.aside.values() for text in texts]
        ashore = [text for text, where in watch.where.items() if where[0] in ("apron", "yard", "reefers", "removed")]
        self.assertEqual(sorted([*stowed, *aside, *ashore]), sorted(watch.boxes))
        self.assertEqual([text for text, _ in office.temperatures()], watch.plugs)


class JournalTest(Case):
    """[Q8]: journals, and quaybest.journals."""

    def test_entries_as_they_were_passed(self):
        office = terminal()
        arrival, container = ship([box(1, ports=(1, 3)), box(2)], [0, 1]), box(3, ports=(3, 4), reefer=REEFER)
        calls = [("add_ship", arrival), ("berth", 0), ("move_crane", 1, 5), ("tick",), ("lift", 0, 0), ("book", 0, 0),
                 ("book", 1, 2), ("cancel", 1), ("next_hour",), ("receive", 0, container), ("to_yard", code(3), 0),
                 ("to_reefers", code(3)), ("plan_reefers",), ("stow", 0, 0, code(3)), ("fill", 0, 0, 7),
                 ("lash", 0, 1, (0,)), ("lash", 0, 1, None), ("declare", ("void", 3)), ("pay", code(1)), ("raise_bond", 5)]
        answers = [perform(office, entry) for entry in calls]
        self.same(answers, [0, 0, 0, (), (code(1), "discharge"), 0, 1, 1, (0,), 2, 0, 1, shortest_cycle([REEFER], 1), 1, 7, None,
                            None, ((), (), ()), (0, 1), 1005])
        self.assertEqual(office.journal(), tuple(calls))
        self.assertIs(office.journal()[0][1], arrival)
        self.assertIs(office.journal()[9][2], container)
        other = rebuilt(setup(), list(calls))
        self.assertEqual(questions(other), questions(office))
        self.assertIsNot(other, office)

    def test_lists_become_tuples(self):
        office = terminal()
        office.add_ship(ship([box(1)], [0]))
        office.berth(0)
        office.lash(0, 0, [0])
        office.declare(["void", 3])
        self.same(office.journal()[2:], (("lash", 0, 0, (0,)), ("declare", ("void", 3))))

    def test_questions_and_refusals_are_not_in_it(self):
        office = terminal()
        office.tick()
        questions(office)
        self.refused(Refused, office.berth, 0, told={"reason": "ship"})
        self.same(office.journal(), (("tick",),))

    def test_restow_sail_and_release(self):
        office = terminal()
        calls = [("add_ship", ship([box(1, ports=(1, 3)), box(2, ports=(2, 5))], [0, 0])), ("berth", 0), ("lift", 0, 0),
                 ("lift", 0, 0), ("restow", 0, 0), ("lash", 0, 0, (0,)), ("tick",), ("sail", 0), ("book", 0, 0),
                 ("declare", ("arrive", 1, 1, code(1), 1000, "entry")),
                 ("declare", ("move", 2, 1, code(1), 1000, "entry", "free")), ("pay", code(1)), ("next_hour",),
                 ("release", 0, code(1))]
        answers = [perform(office, list(entry) if number % 2 else entry) for number, entry in enumerate(calls)]
        self.same(answers[3:9], [(code(1), "discharge"), code(2), None, (), 1, 0])
        self.same(answers[12:], [(0,), 1])
        self.assertEqual(office.journal(), tuple(calls))
        self.assertEqual(questions(rebuilt(setup(), office.journal())), questions(office))

    def test_errors_of_entries(self):
        self.refused(Refused, perform, terminal(), ("lift", 0, 1), told={"reason": "ship"})
        self.refused(Refused, rebuilt, setup(), [("tick",), ("pay", code(1))], told={"reason": "unknown"})

    def test_nothing(self):
        office = rebuilt(setup(), [])
        self.assertEqual(questions(office), questions(terminal()))
        self.same(office.journal(), ())

    def test_what_is_returned_can_be_changed(self):
        office = terminal()
        office.add_ship(ship([box(1, ports=(1, 3))], [0]))
        office.berth(0)
        office.lift(0, 0)
        office.tally(0)["x"] = 5
        self.same(office.tally(0), {code(1): -1})
