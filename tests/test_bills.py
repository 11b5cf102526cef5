"""[O5], [O1] for its tally, and quaybest.bills."""

import copy
import random

from quaybest.bills import (BadBill, BadSheet, NegativeTotal, NoBill, Tally, TooManySheets, check_bill, first_mismatch,
                            remove_bill, roll_up)
from quaybest.counts import BadCounts
from support import Case

EMPTY = (0, {}, ())
BILL = (12, {"B": 2, "A": 1}, [(4, {"A": 4}, []), [5, {}, ((3, {"C": 3}, ()), (2, {"A": 1, "B": 1}, ()))], (0, {}, [])])


def some_bill(chance, deep=2, least=0):
    bills = [some_bill(chance, deep - 1) for _ in range(chance.randint(0, 2) if deep else 0)]
    lines = {code: chance.randint(1, 3) for code in chance.sample(["A", "C", "B"], chance.randint(0, 2))}
    total = sum(lines.values()) + sum(bill[0] for bill in bills)
    return [total + (chance.random() < 0.15), lines, bills] if chance.random() < 0.5 else (total, lines, tuple(bills))


def bill_at(bill, path):
    for place in path:
        bill = bill[2][place]
    return bill


def all_paths(bill, path=()):
    """The paths of a bill and all in it, each with all in it ahead of the next."""
    yield path
    for place, inner in enumerate(bill[2]):
        yield from all_paths(inner, (*path, place))


def frozen(bill):
    """The bill as tuples and dicts with their codes ascending."""
    total, lines, bills = bill
    return total, dict(sorted(lines.items())), tuple(frozen(inner) for inner in bills)


def told_removed(bill, path):
    """By the words, step by step; None if a total would be below 0."""
    total = bill_at(bill, path)[0]
    bill = [bill[0], dict(bill[1]), [frozen(inner) for inner in bill[2]]]
    if bill[0] < total:
        return None
    bill[0] -= total
    if len(path) == 1:
        del bill[2][path[0]]
    else:
        inner = told_removed(bill[2][path[0]], path[1:])
        if inner is None:
            return None
        bill[2][path[0]] = inner
    return frozen(bill)


def nested(many, inside=EMPTY):
    for _ in range(many):
        inside = (0, {}, (inside,))
    return inside


class CheckTest(Case):
    """Bills that are allowed, and others."""

    def test_allowed(self):
        for bill in (EMPTY, [0, {}, []], (10 ** 9, {"A": 1000000}, [EMPTY] * 12), nested(2), BILL):
            self.same(check_bill(bill), None)

    def test_each_reason(self):
        for total in (-1, 10 ** 9 + 1):
            self.check((total, {}, ()), BadBill, path=(), reason="total")
            self.check((0, {}, (EMPTY, (total, {}, ()))), BadBill, path=(1,), reason="total")
        self.check((0, {"A": 0}, ()), BadCounts, code="A")
        self.check((0, {"A": 1}, ((0, {}, [(0, {"B": 1, "a": 2}, ())]),)), BadCounts, code="a")
        self.check((0, {}, [EMPTY] * 13), BadBill, path=(), reason="bills")
        self.check((0, {}, [EMPTY, (0, {}, ((0, {}, ()), (0, {}, ())) + (EMPTY,) * 11)]), BadBill, path=(1,), reason="bills")
        self.check(nested(3), BadBill, path=(0, 0), reason="depth")
        self.check((0, {}, (EMPTY, nested(1), (0, {}, (EMPTY, nested(1))))), BadBill, path=(2, 1), reason="depth")
        self.check(nested(4), BadBill, path=(0, 0), reason="depth")

    def test_first_reason_of_a_bill(self):
        self.check((-1, {"A": 0}, [EMPTY] * 13), BadBill, path=(), reason="total")
        self.check((0, {"A": 0}, [EMPTY] * 13), BadCounts, code="A")
        third = (0, {}, ((0, {}, (((0, {}, [EMPTY] * 13)),)),))
        self.check(third, BadBill, path=(0, 0), reason="bills")
        self.check((0, {}, ((0, {}, ((0, {}, [(-1, {}, ())]),)),)), BadBill, path=(0, 0), reason="depth")

    def test_a_bill_ahead_of_those_in_it_and_those_ahead_of_the_next(self):
        bad, worse = (-1, {}, ()), (0, {"B": 0}, ())
        self.check((0, {}, ((0, {}, (EMPTY, worse)), bad)), BadCounts, code="B")
        self.check((0, {}, (bad, (0, {}, (worse,)))), BadBill, path=(0,), reason="total")
        self.check((-1, {}, (worse,)), BadBill, path=(), reason="total")
        self.check((0, {}, (nested(2), bad)), BadBill, path=(0, 0), reason="depth")
        self.check((0, {}, (nested(1), bad)), BadBill, path=(1,), reason="total")

    def check(self, bill, error, **told):
        """Every function with a bill raises this error."""
        tally = Tally()
        for call in (check_bill, roll_up, first_mismatch, tally.compare, lambda it: remove_bill(it, ()),
                     lambda it: remove_bill(it, [7])):
            self.refused(error, call, bill, told=told)


class RollUpTest(Case):
    """Sums and mismatches."""

    def test_roll_up(self):
        self.same(roll_up(BILL), {"A": 6, "B": 3, "C": 3})
        self.same(roll_up(EMPTY), {})
        most = (0, {"A": 1000000}, ((0, {"A": 1000000}, ()),))
        self.same(roll_up(most), {"A": 2000000})

    def test_first_mismatch(self):
        self.same(first_mismatch(BILL), None)
        self.same(first_mismatch(EMPTY), None)
        for path in all_paths(BILL):
            bill = copy.deepcopy(frozen(BILL))
            self.same(first_mismatch(self.raised(bill, path)), path[:-1] if path else ())
        # The total of the inner bill counts, not what it should be.
        self.same(first_mismatch((5, {}, ((5, {"A": 4}, ()),))), (0,))
        self.same(first_mismatch((4, {}, ((5, {"A": 4}, ()),))), ())
        self.same(first_mismatch((3, {}, ((2, {}, ((1, {"A": 1}, ()),)), (1, {}, ())))), (0,))
        self.same(first_mismatch((3, {}, ((2, {}, ((2, {"A": 1}, ()),)), (1, {}, ())))), (0, 0))
        self.same(first_mismatch((3, {}, ((2, {"B": 1}, ((1, {"A": 1}, ()),)), (1, {}, ())))), (1,))

    def raised(self, bill, path):
        total, lines, bills = bill
        if not path:
            return total + 1, lines, bills
        bills = list(bills)
        bills[path[0]] = self.raised(bills[path[0]], path[1:])
        return total, lines, bills

    def test_random_bills(self):
        chance = random.Random(1)
        found = set()
        for _ in range(500):
            bill = some_bill(chance)
            totals = {}
            for path in all_paths(bill):
                for code, count in bill_at(bill, path)[1].items():
                    totals[code] = totals.get(code, 0) + count
            self.same(roll_up(bill), dict(sorted(totals.items())))
            wrong = [path for path in all_paths(bill) for total, lines, bills in (bill_at(bill, path),)
                     if total != sum(lines.values()) + sum(inner[0] for inner in bills)]
            self.same(first_mismatch(bill), wrong[0] if wrong else None)
            found.add(wrong[0] if wrong else None)
        self.assertGreater(len(found), 5)


class RemoveTest(Case):
    """Bills without one of those in them."""

    def test_each_path(self):
        self.same(remove_bill(BILL, (0,)), (8, {"A": 1, "B": 2}, frozen(BILL)[2][1:]))
        self.same(remove_bill(BILL, [1, 0]), (9, {"A": 1, "B": 2}, (
            (4, {"A": 4}, ()), (2, {}, ((2, {"A": 1, "B": 1}, ()),)), (0, {}, ()))))
        for path in list(all_paths(BILL))[1:]:
            self.same(remove_bill(BILL, path), told_removed(BILL, path))

    def test_no_bill(self):
        for path in ((), [], (3,), (-1,), (0, 0), (1, 2), (1, -1), (1, 0, 0), (5, 0)):
            self.refused(NoBill, remove_bill, BILL, path)
        self.refused(NoBill, remove_bill, (0, {}, ((9, {}, ()),)), (1,))

    def test_negative_totals(self):
        self.refused(NegativeTotal, remove_bill, (4, {}, ((5, {}, ()),)), (0,))
        self.refused(NegativeTotal, remove_bill, (9, {}, ((4, {}, ((5, {}, ()),)),)), (0, 0))
        self.refused(NegativeTotal, remove_bill, (4, {}, ((9, {}, ((5, {}, ()),)),)), (0, 0))
        self.same(remove_bill((5, {}, ((5, {}, ((5, {}, ()),)),)), (0, 0)), (0, {}, ((0, {}, ()),)))
        self.refused(NoBill, remove_bill, (4, {}, ((5, {}, ()),)), (0, 0))

    def test_random_bills(self):
        chance = random.Random(2)
        below = 0
        for _ in range(200):
            bill = some_bill(chance)
            paths = list(all_paths(bill))
            if chance.random() < 0.3:
                bill = (chance.randint(0, 4), *bill[1:])
            given = copy.deepcopy(bill)
            for path in paths[1:]:
                wanted = told_removed(bill, path)
                if wanted is None:
                    below += 1
                    self.refused(NegativeTotal, remove_bill, bill, path)
                else:
                    self.same(remove_bill(bill, path), wanted)
            self.assertEqual(bill, given)
        self.assertGreater(below, 10)

    def test_what_is_returned_can_be_changed(self):
        bill = copy.deepcopy(BILL)
        found = remove_bill(bill, (0,))
        found[1]["A"] = 99
        found[2][0][2][0][1]["C"] = 99
        roll_up(bill)["A"] = 99
        self.assertEqual(bill, BILL)


class TallyTest(Case):
    """Tallies."""

    def test_a_tally(self):
        tally = Tally()
        self.same((len(tally), tally.total()), (0, {}))
        self.same(tally.add("one", {"B": 2, "A": 1}), True)
        self.same(tally.add("two", {"B": 1000000}), True)
        self.same((len(tally), tally.total()), (2, {"A": 1, "B": 1000002}))
        self.same(tally.add("one", {"C": 9}), False)
        self.same((len(tally), tally.total()), (2, {"A": 1, "B": 1000002}))
        self.same(tally.remove("three"), False)
        self.same(tally.remove("two"), True)
        self.same(tally.remove("two"), False)
        self.same((len(tally), tally.total()), (1, {"A": 1, "B": 2}))
        self.same(tally.add("two", {}), True)
        self.same((len(tally), tally.total()), (2, {"A": 1, "B": 2}))

    def test_compare(self):
        tally = Tally()
        self.same(tally.compare(BILL), {"A": -6, "B": -3, "C": -3})
        tally.add("x", {"B": 5, "A": 6, "D": 1})
        self.same(tally.compare(BILL), {"B": 2, "C": -3, "D": 1})
        tally.add("y", {"A": 1000000})
        self.same(tally.compare((0, {"A": 1000000}, [(0, {"A": 1000000}, [])])), {"A": -999994, "B": 5, "D": 1})
        self.refused(BadBill, tally.compare, (-1, {}, ()), told={"path": (), "reason": "total"})

    def test_counts_may_change_later(self):
        tally = Tally()
        counts = {"A": 1}
        tally.add("x", counts)
        counts["A"] = 9
        tally.total()["A"] = 7
        tally.compare(EMPTY)["A"] = 7
        self.same(tally.total(), {"A": 1})

    def test_names(self):
        tally = Tally()
        for name in ("x", " ", "twelve chars", "\u00e4" * 12):
            self.same(tally.add(name, {}), True)
        for name in ("", "thirteen char"):
            self.refused(BadSheet, tally.add, name, {"a": 0})
            self.same(tally.remove(name), False)
        self.same(len(tally), 4)

    def test_a_hundred_sheets(self):
        tally = Tally()
        for number in range(100):
            self.same(tally.add(str(number), {"A": 1}), True)
        self.refused(TooManySheets, tally.add, "100", {"A": 1})
        self.refused(BadSheet, tally.add, "", {"A": 0})
        self.refused(BadCounts, tally.add, "100", {"A": 0}, told={"code": "A"})
        self.refused(BadCounts, tally.add, "99", {"A": 0}, told={"code": "A"})
        self.same(tally.add("99", {"A": 5}), False)
        self.same((len(tally), tally.total()), (100, {"A": 100}))
        self.same((tally.remove("0"), tally.add("100", {"B": 1}), len(tally)), (True, True, 100))
