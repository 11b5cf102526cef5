"""[A6] and quaybest.allocator."""

import random

from quaybest.allocator import (Allocator, AllocatorError, BadCount, LimitReached, NotEnough, NothingToUndo,
                                NotIssued)
from quaybest.codes import BadCode
from quaybest.ranks import nth, rank, to_ranges
from support import Case
from test_codes import told_remainder
from test_ranks import CODES

PREFIX = "CSQU"
ALL = CODES[PREFIX]


class Model:
    """The allocator by the words of [A6], with every code told by itself."""

    def __init__(self, first):
        self.first = first
        self.following = first
        self.operations = []

    def status(self, number):
        if number < self.first:
            return "excluded"
        if number >= self.following:
            return "available"
        if any(word == "revoke" and number in numbers for word, numbers in self.operations):
            return "revoked"
        if any(word == "issue" and number in numbers for word, numbers in self.operations):
            return "issued"
        return "retired"

    def issued(self):
        return [number for number in range(self.first, self.following) if self.status(number) == "issued"]


class AllocatorTest(Case):
    """[A6]: issues, revocations, and what is undone."""

    def test_issue(self):
        office = Allocator(ALL[100])
        self.same(office.issue(3), tuple(ALL[100:103]))
        self.same(office.issue(1), (ALL[103],))
        self.same(office.ranges(), ((ALL[100], ALL[103]),))

    def test_first_code_can_be_the_first_of_its_prefix(self):
        office = Allocator(ALL[0])
        self.assertEqual(office.issue(2), (ALL[0], ALL[1]))
        self.assertEqual(office.status(ALL[0]), "issued")

    def test_one_and_two_hundred(self):
        office = Allocator(ALL[7])
        self.same(office.issue(200), tuple(ALL[7:207]))
        self.same(office.issue(1), (ALL[207],))
        for count in (0, -1, 201, 1000):
            self.refused(BadCount, office.issue, count)
        self.assertEqual(office.issue(1), (ALL[208],))

    def test_all_that_the_prefix_has_left(self):
        office = Allocator(ALL[-3])
        self.refused(NotEnough, office.issue, 4)
        self.assertEqual(office.status(ALL[-3]), "available")
        self.same(office.issue(3), tuple(ALL[-3:]))
        self.refused(NotEnough, office.issue, 1)
        self.same(office.undo(), tuple(ALL[-3:]))
        self.refused(NotEnough, office.issue, 1)

    def test_revoke(self):
        office = Allocator(ALL[10])
        office.issue(4)
        self.same(office.revoke(ALL[11]), 3)
        self.same(office.revoke(ALL[13]), 2)
        self.refused(NotIssued, office.revoke, ALL[11])
        self.same(office.ranges(), ((ALL[10], ALL[10]), (ALL[12], ALL[12])))
        self.same(office.undo(), (ALL[13],))
        self.same(office.ranges(), ((ALL[10], ALL[10]), (ALL[12], ALL[13])))

    def test_not_issued(self):
        office = Allocator(ALL[10])
        office.issue(2)
        office.undo()
        office.issue(1)
        for code in (ALL[9], ALL[10], ALL[13], CODES["ZZZZ"][12]):
            self.refused(NotIssued, office.revoke, code)
        self.assertEqual(office.revoke(ALL[12]), 0)

    def test_status(self):
        office = Allocator(ALL[10])
        office.issue(2)
        office.issue(2)
        office.undo()
        office.issue(2)
        office.revoke(ALL[15])
        wanted = ["excluded", "issued", "issued", "retired", "retired", "issued", "revoked", "available"]
        self.assertEqual([office.status(code) for code in ALL[9:17]], wanted)
        self.same(office.status(CODES["ZZZZ"][12]), "excluded")
        self.same(office.status(CODES["ZZZZ"][5]), "excluded")
        self.same(office.status(CODES["ZZZZ"][-1]), "excluded")

    def test_undone_codes_are_never_issued_again(self):
        office = Allocator(ALL[50])
        office.issue(5)
        self.same(office.undo(), tuple(ALL[50:55]))
        self.same(office.issue(2), tuple(ALL[55:57]))
        self.same(office.ranges(), ((ALL[55], ALL[56]),))

    def test_nothing_to_undo(self):
        office = Allocator(ALL[50])
        self.refused(NothingToUndo, office.undo)
        office.issue(1)
        office.undo()
        self.refused(NothingToUndo, office.undo)

    def test_hundred_operations_with_undone_ones(self):
        office = Allocator(ALL[0])
        for _ in range(49):
            office.issue(1)
            office.undo()
        office.issue(1)
        for _ in range(49):
            office.issue(1)
        office.revoke(ALL[49])
        self.refused(LimitReached, office.issue, 1)
        self.refused(LimitReached, office.revoke, ALL[50])
        office.undo()
        self.refused(LimitReached, office.issue, 1)
        self.refused(LimitReached, office.revoke, ALL[49])
        self.assertEqual(office.status(ALL[49]), "issued")
        self.same(office.ranges(), ((ALL[49], ALL[98]),))

    def test_which_error_is_told_first(self):
        office = Allocator(ALL[-1])
        self.refused(BadCount, office.issue, 0)
        for _ in range(50):
            self.refused(NotEnough, office.issue, 2)
        office.issue(1)
        for _ in range(49):
            office.revoke(ALL[-1])
            office.undo()
        office.revoke(ALL[-1])
        self.refused(NotEnough, office.issue, 1)
        office.undo()
        office.revoke(ALL[-1])
        for _ in range(48):
            office.undo()
            office.revoke(ALL[-1])
        self.refused(LimitReached, office.issue, 1)
        self.refused(BadCount, office.issue, 201)
        self.refused(LimitReached, office.revoke, ALL[-1])
        self.refused(BadCode, office.revoke, "CSQU3054384", told={"reason": "digit", "position": None})

    def test_wrong_codes(self):
        bad = next(f"CSQU{n:06d}0" for n in range(100) if told_remainder(f"CSQU{n:06d}") == 10)
        office = Allocator(ALL[0])
        for call in (Allocator, office.revoke, office.status):
            self.refused(BadCode, call, bad, told={"reason": "assignable", "position": None})
            self.refused(BadCode, call, "CSQU3054384", told={"reason": "digit", "position": None})
            self.refused(BadCode, call, "CSQI3054384", told={"reason": "character", "position": 3})
            self.refused(BadCode, call, "CSQU", told={"reason": "length", "position": None})

    def test_errors_stand_under_one(self):
        for error in (BadCount, LimitReached, NotEnough, NotIssued, NothingToUndo):
            self.assertTrue(issubclass(error, AllocatorError))

    def test_errors_change_nothing(self):
        office = Allocator(ALL[20])
        office.issue(3)
        office.revoke(ALL[21])
        ahead = (office.ranges(), [office.status(code) for code in ALL[15:30]])
        self.refused(BadCount, office.issue, 0)
        self.refused(NotIssued, office.revoke, ALL[21])
        self.refused(NotIssued, office.revoke, ALL[23])
        self.assertEqual((office.ranges(), [office.status(code) for code in ALL[15:30]]), ahead)
        self.assertEqual(office.issue(1), (ALL[23],))

    def test_random_operations(self):
        chance = random.Random(1)
        for _ in range(15):
            first = chance.randrange(0, 2000)
            office = Allocator(ALL[first])
            model = Model(first)
            for _ in range(60):
                self.one_operation(chance, office, model)
                numbers = range(max(0, first - 2), model.following + 2)
                self.assertEqual([office.status(ALL[k]) for k in numbers], [model.status(k) for k in numbers])
                self.same(office.ranges(), to_ranges([ALL[k] for k in model.issued()]))

    def one_operation(self, chance, office, model):
        word = chance.choice(["issue", "revoke", "revoke", "undo"])
        if word == "issue":
            numbers = list(range(model.following, model.following + chance.randint(1, 4)))
            self.same(office.issue(len(numbers)), tuple(ALL[k] for k in numbers))
            model.operations.append((word, numbers))
            model.following += len(numbers)
        elif word == "revoke":
            number = chance.randrange(max(0, model.first - 1), model.following + 1)
            if model.status(number) == "issued":
                model.operations.append((word, [number]))
                self.same(office.revoke(ALL[number]), len(model.issued()))
            else:
                self.refused(NotIssued, office.revoke, ALL[number])
        elif model.operations:
            self.same(office.undo(), tuple(ALL[k] for k in model.operations.pop()[1]))
        else:
            self.refused(NothingToUndo, office.undo)

    def test_ranges_are_ranges_by_rank(self):
        office = Allocator(nth(PREFIX, 305000))
        codes = office.issue(200)
        self.assertEqual([rank(code) for code in codes], list(range(305000, 305200)))
