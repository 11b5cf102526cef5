"""[N8] and quaybest.tariffs."""

import itertools
import random

from quaybest.formulas import BadFormula, TooLong, duty, read_formula, write_formula
from quaybest.tariffs import BadDay, BadHeading, NoEntry, NotInForce, Tariff, TariffError, TooManyEntries
from support import Case
from trees import some_tree

HEADINGS = ("", "123456789", "a", "A B", "A-1", "\u00c4", "A\n")
DAYS = (-1, 100001)


def state(tariff):
    return len(tariff), tariff.entries()


class EnterTest(Case):
    """Entries."""

    def test_enter(self):
        tariff = Tariff()
        self.same(state(tariff), (0, ()))
        self.same(tariff.enter("A1", 5, "8percent"), None)
        self.same(tariff.enter("A1", 9, "12 per kg +1 percent"), None)
        self.same(tariff.enter("0", 9, "half of(3 percent)"), None)
        self.same(tariff.enter("A1", 5, "9 percent"), "8 percent")
        self.same(state(tariff), (3, (("0", 9, "half of (3 percent)"), ("A1", 5, "9 percent"),
                                      ("A1", 9, "12 per kg + 1 percent"))))
        self.same(tariff.enter("A1", 9, "9 percent"), "12 per kg + 1 percent")
        self.same(tariff.enter("A1", 9, "9 percent"), "9 percent")

    def test_remove(self):
        tariff = Tariff()
        tariff.enter("A1", 5, "8percent")
        tariff.enter("A1", 6, "9  percent")
        for heading, day in (("A1", 4), ("A1", 7), ("A2", 5), ("A", 5)):
            self.refused(NoEntry, tariff.remove, heading, day)
        self.same(tariff.remove("A1", 5), "8 percent")
        self.refused(NoEntry, tariff.remove, "A1", 5)
        self.same(state(tariff), (1, (("A1", 6, "9 percent"),)))

    def test_headings_and_days_at_the_limits(self):
        tariff = Tariff()
        for heading, day in itertools.product(("A", "Z", "0", "9", "ABCDEF12"), (0, 100000)):
            self.same(tariff.enter(heading, day, "1 percent"), None)
        self.same(len(tariff), 10)
        self.same(tariff.headings(0), ("0", "9", "A", "ABCDEF12", "Z"))

    def test_errors_of_formulas(self):
        tariff = Tariff()
        tariff.enter("A", 5, "1 percent")
        self.refused(BadFormula, tariff.enter, "A", 5, "1 per cent", told={"position": 6})
        self.refused(TooLong, tariff.enter, "A", 5, "1 percent".ljust(2001))
        self.refused(TooLong, tariff.enter, "A", 6, "+".join(["1 percent"] * 25))
        self.same(state(tariff), (1, (("A", 5, "1 percent"),)))

    def test_two_hundred_entries(self):
        tariff = Tariff()
        for number in range(200):
            tariff.enter("A" if number % 2 else "B", number, "1 percent")
        before = state(tariff)
        self.same(before[0], 200)
        self.refused(TooManyEntries, tariff.enter, "C", 0, "1 percent")
        self.refused(TooManyEntries, tariff.enter, "A", 0, "1 percent")
        self.refused(BadFormula, tariff.enter, "C", 0, "1", told={"position": 1})
        self.refused(TooLong, tariff.enter, "C", 0, "1 percent".ljust(2001))
        self.same(state(tariff), before)
        self.same(tariff.enter("B", 0, "2 percent"), "1 percent")
        self.same(tariff.remove("B", 0), "2 percent")
        self.same(tariff.enter("C", 0, "1 percent"), None)
        self.refused(TooManyEntries, tariff.enter, "B", 0, "1 percent")


class InForceTest(Case):
    """What is in force."""

    def test_at_ahead_of_and_behind_a_day(self):
        tariff = Tariff()
        tariff.enter("TEA", 10, "8 percent")
        tariff.enter("TEA", 20, "3 per kg")
        tariff.enter("RUM", 15, "1 percent")
        rows = [(9, None, ()), (10, "8 percent", ("TEA",)), (15, "8 percent", ("RUM", "TEA")), (19, "8 percent", ("RUM", "TEA")),
                (20, "3 per kg", ("RUM", "TEA")), (100000, "3 per kg", ("RUM", "TEA"))]
        for day, text, headings in rows:
            self.same(tariff.formula_on("TEA", day), text)
            self.same(tariff.headings(day), headings)
            if text is None:
                self.refused(NotInForce, tariff.duty, "TEA", day, 50, 7)
            else:
                self.same(tariff.duty("TEA", day, 50, 7), duty(read_formula(text), 50, 7))
        self.same(tariff.formula_on("GIN", 100000), None)
        self.refused(NotInForce, tariff.duty, "GIN", 100000, 1, 1)
        tariff.remove("TEA", 20)
        self.same(tariff.formula_on("TEA", 100000), "8 percent")

    def test_random_entries(self):
        chance = random.Random(1)
        tariff = Tariff()
        entries = {}
        for _ in range(1500):
            heading, day = chance.choice(("A", "B", "A1", "7")), chance.randint(0, 9)
            tree = some_tree(chance, 1)
            if chance.random() < 0.5:
                before = entries.get((heading, day))
                entries[heading, day] = write_formula(tree)
                self.same(tariff.enter(heading, day, write_formula(tree)), before)
            elif (heading, day) in entries:
                self.same(tariff.remove(heading, day), entries.pop((heading, day)))
            in_force = {}
            for (other, start), text in sorted(entries.items()):
                if start <= day:
                    in_force[other] = text
            self.same(tariff.headings(day), tuple(sorted(in_force)))
            self.same(tariff.formula_on(heading, day), in_force.get(heading))
            if heading in in_force:
                self.same(tariff.duty(heading, day, 70, 3), duty(read_formula(in_force[heading]), 70, 3))
            self.same(state(tariff), (len(entries), tuple((*key, entries[key]) for key in sorted(entries))))


class ErrorsTest(Case):
    """Wrong headings and days."""

    def test_headings_first(self):
        tariff = Tariff()
        for number in range(200):
            tariff.enter("A", number, "1 percent")
        calls = [lambda heading, day: tariff.enter(heading, day, "x"), tariff.remove, tariff.formula_on,
                 lambda heading, day: tariff.duty(heading, day, 1, 1)]
        for call in calls:
            for heading in HEADINGS:
                for day in (*DAYS, 5):
                    self.refused(BadHeading, call, heading, day)
            for day in DAYS:
                self.refused(BadDay, call, "B", day)
        for day in DAYS:
            self.refused(BadDay, tariff.headings, day)

    def test_errors_of_tariffs(self):
        for error in (BadHeading, BadDay, TooManyEntries, NoEntry, NotInForce):
            self.assertTrue(issubclass(error, TariffError))
