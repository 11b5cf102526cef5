"""[M1], [M3] to [M7], [M9] and quaybest.customs."""

import itertools
import random
from fractions import Fraction

from quaybest.customs import (BadRates, BadTable, CustomsLog, LogError, NothingToUndo, Table, TooManyMessages, UnknownState,
                              balances_at, bond_at, effect_of, is_cleared, ledger, peak_bond, routes, shortest_route)
from quaybest.messages import BadMessage
from support import Case, listed, tupled

STATES = ("entry", "bond", "free")
PAIRS = (("entry", "bond"), ("bond", "free"), ("entry", "free"))
TABLE = Table(STATES, ["entry"], PAIRS)
TABLE_OF_TWO = Table(STATES, STATES[:2], PAIRS)
MESSAGES = [("move", 2, 20, "TEA", 200, "entry", "bond"), ("arrive", 1, 10, "TEA", 300, "entry")]
RATES = ((3, 2), (1, 4), (0, 1))


def arrive(number, time, kilos, state="entry", item="TEA"):
    return ("arrive", number, time, item, kilos, state)


def move(number, time, kilos, start="entry", stop="bond", item="TEA"):
    return ("move", number, time, item, kilos, start, stop)


def told_acts(messages):
    """The standing acts, by [M3]."""
    voided = {message[1] for message in messages if message[0] == "void"}
    return {tuple(message) for message in messages if message[1] not in voided and message[0] != "void"}


def told_executed(entries, pairs, messages):
    """The executed acts, and the kilos by item and state, by [M3] and [M4]."""
    acts = told_acts(messages)
    due = sorted((act[2], act[1], act) for act in acts if not any(other[1] == act[1] and other != act for other in acts))
    kilos = {}
    found = []
    for _, _, act in due:
        if act[0] == "arrive":
            if act[5] not in entries:
                continue
        else:
            if (act[5], act[6]) not in pairs or kilos.get((act[3], act[5]), 0) < act[4]:
                continue
            kilos[act[3], act[5]] -= act[4]
        kilos[act[3], act[-1]] = kilos.get((act[3], act[-1]), 0) + act[4]
        found.append(act)
    return found, kilos


def told_balances(states, kilos):
    return tuple((item, state, kilos[item, state]) for item in sorted({item for item, _ in kilos}) for state in states
                 if kilos.get((item, state)))


def told_ledger(states, entries, pairs, messages):
    executed, kilos = told_executed(entries, pairs, messages)
    numbers = tuple(act[1] for act in executed)
    return told_balances(states, kilos), numbers, tuple(sorted({act[1] for act in told_acts(messages)} - set(numbers)))


def told_changes(first, second):
    """The changes from one ledger to another one, by [M7]."""
    standing = [set(executed) | set(pending) for _, executed, pending in (first, second)]
    return (tuple(sorted(set(first[1]) & set(second[2]))), tuple(sorted(set(first[2]) & set(second[1]))),
            tuple(sorted(standing[0] - standing[1])))


def some_setup(chance):
    """A table as its parts, and messages."""
    states = STATES[:chance.randint(1, 3)]
    entries = [state for state in states if chance.random() < 0.6]
    pairs = [pair for pair in itertools.permutations(states, 2) if chance.random() < 0.7]
    messages = []
    for _ in range(chance.randint(0, 9)):
        number = chance.randint(1, 7)
        head = (number, chance.randint(0, 4), chance.choice(("TEA", "RUM")), chance.randint(1, 3), chance.choice(states))
        messages.append(chance.choice((("arrive", *head), ("arrive", *head), ("move", *head, chance.choice(states)),
                                       ("move", *head, chance.choice(states)), ("void", number))))
    messages.extend([message for message in messages if chance.random() < 0.2])
    return states, entries, pairs, messages


class TableTest(Case):
    """[M1]: tables."""

    def test_attributes(self):
        for form in (listed, tupled):
            table = Table(form(STATES), form(["free", "entry", "free"]), form([*PAIRS, *PAIRS]))
            self.same((table.states, table.entries), (STATES, ("entry", "free")))
            self.same(table.following("entry"), ["bond", "free"])
            self.same([table.following(state) for state in ("bond", "free", "gone")], [["free"], [], []])
            for pair in itertools.product((*STATES, "gone"), repeat=2):
                self.same(table.allows(*pair), pair in PAIRS)

    def test_following_in_the_order_of_the_states(self):
        table = Table(["b", "c", "a"], [], [("b", "a"), ("b", "c"), ("a", "b")])
        self.same((table.entries, table.following("b"), table.following("a")), ((), ["c", "a"], ["b"]))
        table.following("b").append("b")
        self.same(table.following("b"), ["c", "a"])

    def test_arguments_may_change_later(self):
        states, entries, pairs = ["a", "b"], ["a"], [["a", "b"]]
        table = Table(states, entries, pairs)
        pairs[0][0] = "b"
        del states[0], entries[0], pairs[0]
        self.same((table.states, table.entries, table.allows("a", "b")), (("a", "b"), ("a",), True))

    def test_one_and_eight_states(self):
        many = [letter * 8 for letter in "abcdefgh"]
        self.same(Table(many, many, []).states, tuple(many))
        self.same(Table(["a"], [], []).states, ("a",))
        for states in ([], [*many, "i"], [""] * 9):
            self.refused(BadTable, Table, states, ["x"], [], told={"number": None, "reason": "states"})

    def test_wrong_tables(self):
        rows = [((["a", "b", "a"], ["x"], []), 2, "state"), ((["", "a"], ["x"], []), 0, "state"),
                ((["a", "B"], [], []), 1, "state"), ((["a", "abcdefghi", "1"], [], []), 1, "state"),
                ((["a", "b"], ["b", "c", "d"], [("a", "a")]), 1, "entry"), ((["a"], [""], []), 0, "entry"),
                ((["a", "b"], ["b", "b"], [("a", "b"), ("b", "b"), ("a", "c")]), 1, "transition"),
                ((["a", "b"], [], [("a", "b"), ("a", "b"), ("b", "c")]), 2, "transition"),
                ((["a", "b"], [], [("c", "b")]), 0, "transition"), ((["a", "b"], [], [("c", "c")]), 0, "transition"),
                ((["a", "b"], [], [("b", "a"), ("b",)]), 1, "transition"),
                ((["a", "b"], [], [("b", "a", "b")]), 0, "transition")]
        for parts, number, reason in rows:
            for form in (listed, tupled):
                self.refused(BadTable, Table, *form(parts), told={"number": number, "reason": reason})


class LedgerTest(Case):
    """[M3] to [M5]: what is executed, and what is there."""

    def test_example(self):
        wanted = ((("TEA", "entry", 100), ("TEA", "bond", 200)), (1, 2), ())
        self.same(ledger(TABLE, MESSAGES), wanted)
        self.same(ledger(TABLE, listed(MESSAGES)), wanted)

    def test_nothing(self):
        self.same(ledger(TABLE, []), ((), (), ()))
        self.same(ledger(TABLE, [("void", 1), ("void", 1)]), ((), (), ()))

    def test_twice_the_same_and_conflicting_numbers(self):
        self.same(ledger(TABLE, [arrive(1, 5, 9), list(arrive(1, 5, 9))]), ((("TEA", "entry", 9),), (1,), ()))
        self.same(ledger(TABLE, [arrive(1, 5, 9), arrive(1, 5, 8)]), ((), (), (1,)))
        self.same(ledger(TABLE, [arrive(1, 5, 9), arrive(1, 5, 8), ("void", 1)]), ((), (), ()))
        self.same(ledger(TABLE, [arrive(1, 5, 9), move(1, 5, 9), arrive(2, 5, 1)]), ((("TEA", "entry", 1),), (2,), (1,)))

    def test_voids_ahead_of_and_behind_their_acts(self):
        for messages in itertools.permutations([arrive(1, 1, 5), ("void", 1), arrive(2, 2, 4)]):
            self.same(ledger(TABLE, messages), ((("TEA", "entry", 4),), (2,), ()))

    def test_acts_of_one_time(self):
        for messages in itertools.permutations([arrive(2, 3, 5), move(1, 3, 5), move(3, 3, 4)]):
            self.same(ledger(TABLE, messages), ((("TEA", "entry", 1), ("TEA", "bond", 4)), (2, 3), (1,)))

    def test_all_kilos_and_one_more(self):
        self.same(ledger(TABLE, [arrive(1, 1, 5), move(2, 2, 5)]), ((("TEA", "bond", 5),), (1, 2), ()))
        self.same(ledger(TABLE, [arrive(1, 1, 5), move(2, 2, 6)]), ((("TEA", "entry", 5),), (1,), (2,)))
        self.same(ledger(TABLE, [arrive(1, 1, 5, item="RUM"), move(2, 2, 5)]), ((("RUM", "entry", 5),), (1,), (2,)))

    def test_no_entry_and_no_transition(self):
        self.same(ledger(TABLE, [arrive(1, 1, 5, "bond")]), ((), (), (1,)))
        messages = [arrive(1, 1, 5), move(2, 2, 5), move(3, 3, 5, "bond", "entry"), move(4, 3, 1, "bond", "bond")]
        self.same(ledger(TABLE, messages), ((("TEA", "bond", 5),), (1, 2), (3, 4)))

    def test_items_and_states_in_order(self):
        messages = [arrive(4, 1, 5, item="TEA"), arrive(3, 1, 6, item="1"), arrive(2, 2, 7, item="A"), move(1, 3, 2),
                    move(5, 3, 3, item="A", stop="free")]
        self.same(ledger(TABLE, messages), ((("1", "entry", 6), ("A", "entry", 4), ("A", "free", 3), ("TEA", "entry", 3),
                                             ("TEA", "bond", 2)), (3, 4, 2, 1, 5), ()))

    def test_random_messages(self):
        chance = random.Random(1)
        kinds = set()
        for _ in range(1500):
            states, entries, pairs, messages = some_setup(chance)
            table = Table(states, entries, pairs)
            wanted = told_ledger(states, entries, pairs, messages)
            kinds.add(tuple(len(part) for part in wanted))
            self.same(ledger(table, messages), wanted)
            chance.shuffle(messages)
            self.same(ledger(table, messages), wanted)
            for time in range(-1, 6):
                acts = [act for act in told_executed(entries, pairs, messages)[0] if act[2] <= time]
                self.same(balances_at(table, messages, time), told_ledger(states, entries, pairs, acts)[0])
            for item in ("TEA", "RUM", "GIN"):
                self.same(is_cleared(table, messages, item), self.told_cleared(states, entries, pairs, messages, item))
        self.assertGreater(len(kinds), 30)

    def told_cleared(self, states, entries, pairs, messages, item):
        executed, kilos = told_executed(entries, pairs, messages)
        if not any(act[3] == item for act in executed):
            return False
        return not any(kilos.get((item, state)) and any(pair[0] == state for pair in pairs) for state in states)

    def test_balances_at_a_time(self):
        self.same(balances_at(TABLE, MESSAGES, 9), ())
        self.same(balances_at(TABLE, MESSAGES, 10), (("TEA", "entry", 300),))
        self.same(balances_at(TABLE, MESSAGES, 19), (("TEA", "entry", 300),))
        self.same(balances_at(TABLE, MESSAGES, 20), (("TEA", "entry", 100), ("TEA", "bond", 200)))

    def test_cleared(self):
        messages = [arrive(1, 1, 5), move(2, 2, 5)]
        self.same(is_cleared(TABLE, messages, "TEA"), False)
        self.same(is_cleared(TABLE, [*messages, move(3, 3, 4, "bond", "free")], "TEA"), False)
        self.same(is_cleared(TABLE, [*messages, move(3, 3, 5, "bond", "free"), arrive(4, 4, 1, item="RUM")], "TEA"), True)
        self.same(is_cleared(TABLE, [arrive(1, 1, 5, "bond")], "TEA"), False)
        self.same(is_cleared(Table(["a", "b"], ["a"], []), [arrive(1, 1, 5, "a")], "TEA"), True)
        self.same(is_cleared(TABLE, [], "TEA"), False)

    def test_no_messages_are_changed(self):
        messages = listed(MESSAGES)
        for call in (lambda: ledger(TABLE, messages), lambda: effect_of(TABLE, messages, ["void", 1]),
                     lambda: peak_bond(TABLE, messages, RATES)):
            call()
            self.assertEqual(messages, listed(MESSAGES))


class EffectTest(Case):
    """[M7]: changes."""

    def test_each_part(self):
        self.same(effect_of(TABLE, MESSAGES, ("void", 1)), ((2,), (), (1,)))
        self.same(effect_of(TABLE, MESSAGES, ("void", 2)), ((), (), (2,)))
        self.same(effect_of(TABLE, MESSAGES, ["void", 3]), ((), (), ()))
        self.same(effect_of(TABLE, [move(2, 20, 5), move(1, 20, 5)], arrive(3, 3, 10)), ((), (1, 2), ()))
        self.same(effect_of(TABLE, MESSAGES, arrive(1, 10, 301)), ((1, 2), (), ()))
        self.same(effect_of(TABLE, MESSAGES, arrive(1, 10, 300)), ((), (), ()))
        self.same(effect_of(TABLE, MESSAGES, arrive(3, 5, 100)), ((), (), ()))
        self.same(effect_of(TABLE, [arrive(1, 1, 5), arrive(1, 2, 5)], ("void", 1)), ((), (), (1,)))
        self.same(effect_of(TABLE, [], arrive(1, 1, 5)), ((), (), ()))

    def test_a_move_that_comes_between(self):
        messages = [arrive(1, 1, 5), move(9, 9, 5), move(8, 9, 5, stop="free")]
        self.same(ledger(TABLE, messages)[1:], ((1, 8), (9,)))
        self.same(effect_of(TABLE, messages, move(7, 9, 1)), ((8,), (), ()))
        self.same(effect_of(TABLE, messages, ("void", 8)), ((), (9,), (8,)))

    def test_random_messages(self):
        chance = random.Random(2)
        kinds = set()
        parts = (STATES, STATES[:2], PAIRS)
        for _ in range(2000):
            # Different numbers, and many moves that hang on others.
            messages = []
            for number in chance.sample(range(1, 9), 7):
                head = (number, chance.randint(0, 6), chance.randint(1, 3))
                messages.append(chance.choice((arrive(*head), arrive(*head, "bond"), move(*head), move(*head, "bond", "free"))))
            more = chance.choice((("void", chance.randint(1, 8)), chance.choice(messages)[:4] + (2, "entry"),
                                  move(9, chance.randint(0, 6), 2), arrive(9, chance.randint(0, 6), 2)))
            if len(more) == 6:
                more = ("arrive", *more[1:])
            wanted = told_changes(told_ledger(*parts, messages), told_ledger(*parts, [*messages, more]))
            kinds.add(tuple(len(part) for part in wanted))
            self.same(effect_of(TABLE_OF_TWO, messages, more), wanted)
        self.assertGreater(len(kinds), 9)


class BondTest(Case):
    """[M6]: bonds."""

    def test_bonds(self):
        self.same(bond_at(TABLE, MESSAGES, RATES, 9), (0, 1))
        self.same(bond_at(TABLE, MESSAGES, RATES, 10), (450, 1))
        self.same(bond_at(TABLE, MESSAGES, listed(RATES), 20), (200, 1))
        self.same(bond_at(TABLE, [arrive(1, 0, 1)], ((4, 6), (1, 1), (1, 1)), 0), (2, 3))
        self.same(bond_at(TABLE, [arrive(1, 0, 7)], ((0, 5), (1, 1), (1, 1)), 0), (0, 1))

    def test_peak(self):
        self.same(peak_bond(TABLE, MESSAGES, RATES), (10, (450, 1)))
        self.same(peak_bond(TABLE, [], RATES), (0, (0, 1)))
        self.same(peak_bond(TABLE, [arrive(1, 5, 9)], ((0, 1),) * 3), (0, (0, 1)))
        self.same(peak_bond(TABLE, [arrive(1, 5, 4), move(2, 6, 4), arrive(3, 7, 4)], ((1, 1), (0, 1), (0, 1))), (5, (4, 1)))
        self.same(peak_bond(TABLE, [arrive(1, 0, 4), arrive(2, 0, 4)], RATES), (0, (12, 1)))
        # At one time the bond is what it is behind all acts of it.
        self.same(peak_bond(TABLE, [arrive(1, 3, 4), move(2, 3, 4), arrive(3, 8, 1)], RATES), (8, (5, 2)))

    def test_random_messages(self):
        chance = random.Random(3)
        for _ in range(500):
            states, entries, pairs, messages = some_setup(chance)
            rates = [(chance.randint(0, 3), chance.randint(1, 4)) for _ in states]
            table = Table(states, entries, pairs)
            bonds = []
            for time in range(6):
                total = sum(kilos * Fraction(*rates[states.index(state)])
                            for _, state, kilos in balances_at(table, messages, time))
                bonds.append(Fraction(total))
                self.same(bond_at(table, messages, rates, time), (bonds[-1].numerator, bonds[-1].denominator))
            best = bonds.index(max(bonds))
            self.same(peak_bond(table, messages, rates), (best, (bonds[best].numerator, bonds[best].denominator)))

    def test_wrong_rates(self):
        for rates in ((), RATES[:2], (*RATES, (1, 1)), ((-1, 1), (1, 1), (1, 1)), ((1, 1), (1, 1), (1, 0)),
                      ((1, 1), (1, -1), (1, 1)), ((1, 1), (1, 1), (1, 1, 1)), ((1, 1), (1,), (1, 1))):
            self.refused(BadRates, bond_at, TABLE, [], rates, 5)
            self.refused(BadRates, peak_bond, TABLE, [], listed(rates))
            self.refused(BadMessage, bond_at, TABLE, [()], rates, 5, told={"reason": "kind"})
            self.refused(UnknownState, peak_bond, TABLE, [arrive(1, 1, 1, "gone")], rates, told={"state": "gone"})


class ErrorsTest(Case):
    """Messages that are wrong."""

    def test_first_wrong_message(self):
        calls = [lambda messages: ledger(TABLE, messages), lambda messages: balances_at(TABLE, messages, 5),
                 lambda messages: effect_of(TABLE, messages[:-1], messages[-1]),
                 lambda messages: is_cleared(TABLE, messages, "TEA"), lambda messages: bond_at(TABLE, messages, RATES, 5),
                 lambda messages: peak_bond(TABLE, messages, RATES)]
        good, bad, unknown = arrive(1, 1, 1), ("void", 0), arrive(2, 2, 2, "gone")
        for call in calls:
            self.refused(BadMessage, call, [good, bad, unknown], told={"reason": "number"})
            self.refused(UnknownState, call, [good, unknown, bad], told={"state": "gone"})
            self.refused(UnknownState, call, [good, ("void", 2), unknown], told={"state": "gone"})
            self.refused(UnknownState, call, [move(1, 1, 1, "gone", "lost"), bad], told={"state": "gone"})
            self.refused(UnknownState, call, [move(1, 1, 1, "entry", "lost"), bad], told={"state": "lost"})
            self.refused(BadMessage, call, [move(1, 1, 1, "gone", "Lost"), good], told={"reason": "state"})


class RoutesTest(Case):
    """[M9]: routes."""

    def test_example(self):
        self.same(routes(TABLE, "entry", "free"), (("entry", "bond", "free"), ("entry", "free")))
        self.same(shortest_route(TABLE, "entry", "free"), ("entry", "free"))

    def test_itself_and_none(self):
        for state in STATES:
            self.same(routes(TABLE, state, state), ((state,),))
            self.same(shortest_route(TABLE, state, state), (state,))
        self.same(routes(TABLE, "free", "entry"), ())
        self.same(shortest_route(TABLE, "free", "entry"), None)

    def test_unknown_states(self):
        for call in (routes, shortest_route):
            self.refused(UnknownState, call, TABLE, "gone", "lost", told={"state": "gone"})
            self.refused(UnknownState, call, TABLE, "free", "lost", told={"state": "lost"})
            self.refused(UnknownState, call, TABLE, "gone", "gone", told={"state": "gone"})

    def test_random_tables(self):
        chance = random.Random(4)
        for _ in range(150):
            states = ["d", "a", "c", "b", "e"][:chance.randint(1, 5)]
            pairs = [pair for pair in itertools.permutations(states, 2) if chance.random() < 0.5]
            chance.shuffle(pairs)
            table = Table(states, [], pairs)
            for start, stop in itertools.product(states, repeat=2):
                wanted = [way for many in range(1, 6) for way in itertools.permutations(states, many)
                          if way[0] == start and way[-1] == stop and all(pair in pairs for pair in zip(way, way[1:]))]
                wanted.sort(key=lambda way: [states.index(state) for state in way])
                self.same(routes(table, start, stop), tuple(wanted))
                self.same(shortest_route(table, start, stop), min(wanted, key=len, default=None))

    def test_eight_states(self):
        states = "abcdefgh"
        table = Table(states, [], list(itertools.permutations(states, 2)))
        self.assertEqual(len(routes(table, "a", "h")), 1957)
        self.same(routes(table, "a", "h")[0], tuple("abcdefgh"))
        self.same(shortest_route(table, "h", "a"), ("h", "a"))


class LogTest(Case):
    """CustomsLog."""

    def test_a_log(self):
        log = CustomsLog(TABLE)
        self.same((len(log), log.messages(), log.ledger()), (0, (), ((), (), ())))
        self.same(log.append(list(MESSAGES[0])), ((), (), ()))
        self.same(log.append(MESSAGES[1]), ((), (2,), ()))
        self.same((len(log), log.messages(), log.ledger()), (2, tuple(MESSAGES), ledger(TABLE, MESSAGES)))
        self.same(log.append(["void", 1]), ((2,), (), (1,)))
        self.same(log.undo(), 2)
        self.same((len(log), log.messages(), log.ledger()), (2, tuple(MESSAGES), ledger(TABLE, MESSAGES)))
        self.same((log.undo(), log.undo()), (1, 0))
        self.refused(NothingToUndo, log.undo)
        self.same((len(log), log.messages()), (0, ()))

    def test_messages_may_change_later(self):
        log = CustomsLog(TABLE)
        message = list(arrive(1, 1, 5))
        log.append(message)
        message[4] = 9
        self.same(log.ledger()[0], (("TEA", "entry", 5),))

    def test_errors(self):
        log = CustomsLog(TABLE)
        log.append(MESSAGES[0])
        self.refused(BadMessage, log.append, ("void", 0), told={"reason": "number"})
        self.refused(UnknownState, log.append, arrive(1, 1, 1, "gone"), told={"state": "gone"})
        self.same(log.messages(), (MESSAGES[0],))

    def test_two_hundred_messages(self):
        log = CustomsLog(TABLE)
        for number in range(1, 201):
            self.same(log.append(arrive(number, 0, 1)), ((), (), ()))
        self.refused(BadMessage, log.append, (), told={"reason": "kind"})
        self.refused(UnknownState, log.append, arrive(1, 1, 1, "gone"), told={"state": "gone"})
        self.refused(TooManyMessages, log.append, ("void", 1))
        self.same((len(log), log.ledger()[0]), (200, (("TEA", "entry", 200),)))
        self.same(log.undo(), 199)
        self.same(log.append(("void", 1)), ((), (), (1,)))
        self.refused(TooManyMessages, log.append, ("void", 1))

    def test_errors_of_the_log(self):
        for error in (TooManyMessages, NothingToUndo):
            self.assertTrue(issubclass(error, LogError))
