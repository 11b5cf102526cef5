"""Customs: the ledger of messages about goods, the bond for them, and the routes that they can take."""

from quaybest.errors import QuayError
from quaybest.fractions import added, fraction, is_less
from quaybest.messages import check_message, is_state

MOST_STATES = 8
MOST_MESSAGES = 200


class BadTable(QuayError):
    """A table is not as it should be."""

    def __init__(self, number, reason):
        self.number = number
        self.reason = reason


class UnknownState(QuayError):
    """The table does not have a state."""

    def __init__(self, state):
        self.state = state


class BadRates(QuayError):
    """Rates are not as they should be."""


class LogError(QuayError):
    """What a log refuses."""


class TooManyMessages(LogError):
    """There are as many messages as there may be."""


class NothingToUndo(LogError):
    """There is no message."""


def check_states(states):
    """Raise BadTable unless states are 1 to 8 different ones."""
    if len(states) < 1 or len(states) > MOST_STATES:
        raise BadTable(None, "states")
    for number, state in enumerate(states):
        if not is_state(state) or state in states[:number]:
            raise BadTable(number, "state")


class Table:
    """States of goods, those in which goods may arrive, and the transitions between states."""

    def __init__(self, states, entries, transitions):
        check_states(states)
        for number, state in enumerate(entries):
            if state not in states:
                raise BadTable(number, "entry")
        for number, pair in enumerate(transitions):
            if len(pair) != 2 or pair[0] not in states or pair[1] not in states or pair[0] == pair[1]:
                raise BadTable(number, "transition")
        self.states = tuple(states)
        self.entries = tuple([state for state in states if state in entries])
        self._transitions = tuple([(start, stop) for start, stop in transitions])

    def allows(self, start, stop):
        """True if there is the transition."""
        return (start, stop) in self._transitions

    def following(self, state):
        """The states to which there is a transition from a state, in order."""
        return [stop for stop in self.states if self.allows(state, stop)]


def check_known(table, states):
    """Raise UnknownState for the first state that a table does not have."""
    for state in states:
        if state not in table.states:
            raise UnknownState(state)


def check_messages(table, messages):
    """Raise BadMessage or UnknownState for the first message that is wrong."""
    for message in messages:
        check_message(message)
        # What a void has behind its number is nothing.
        check_known(table, message[5:])


def check_rates(table, rates):
    """Raise BadRates unless there is a rate for each state of a table."""
    wrong = [rate for rate in rates if len(rate) != 2 or rate[0] < 0 or rate[1] < 1]
    if wrong or len(rates) != len(table.states):
        raise BadRates("rates are one pair for each state")


def standing_acts(messages):
    """The standing acts by their numbers: the different ones of each number."""
    voided = [message[1] for message in messages if message[0] == "void"]
    found = {}
    for message in messages:
        act = tuple(message)
        if act[1] not in voided and act not in found.get(act[1], []):
            found[act[1]] = [*found.get(act[1], []), act]
    return found


def is_executable(table, kilos, act):
    """True if an act can be executed, by the kilos of each (item, state)."""
    if act[0] == "arrive":
        return act[5] in table.entries
    return table.allows(act[5], act[6]) and kilos.get((act[3], act[5]), 0) >= act[4]


def execute(kilos, act):
    """Change the kilos of each (item, state) by an act."""
    item = act[3]
    if act[0] == "move":
        kilos[(item, act[5])] -= act[4]
    goal = (item, act[-1])
    kilos[goal] = kilos.get(goal, 0) + act[4]


def executed_acts(table, messages):
    """The executed acts, in their order."""
    due = sorted([(acts[0][2], number, acts[0]) for number, acts in standing_acts(messages).items() if len(acts) == 1])
    kilos = {}
    found = []
    for act in [row[2] for row in due]:
        if is_executable(table, kilos, act):
            execute(kilos, act)
            found.append(act)
    return found


def balances_of(table, acts):
    """The balances behind executed acts."""
    kilos = {}
    for act in acts:
        execute(kilos, act)
    items = sorted(set([act[3] for act in acts]))
    return tuple([(item, state, kilos[(item, state)]) for item in items for state in table.states
                  if kilos.get((item, state), 0) > 0])


def ledger_of(table, messages):
    """The ledger of messages that are not looked at."""
    acts = executed_acts(table, messages)
    numbers = [act[1] for act in acts]
    pending = sorted([number for number in standing_acts(messages) if number not in numbers])
    return balances_of(table, acts), tuple(numbers), tuple(pending)


def changes_between(table, first, second):
    """The changes from some messages to others, which are not looked at."""
    _, executed, pending = ledger_of(table, first)
    _, later_executed, later_pending = ledger_of(table, second)
    stopped = sorted([number for number in executed if number in later_pending])
    begun = [number for number in pending if number in later_executed]
    gone = sorted([number for number in [*executed, *pending] if number not in [*later_executed, *later_pending]])
    return tuple(stopped), tuple(begun), tuple(gone)


def bond_of(table, acts, rates):
    """The bond behind executed acts."""
    shares = {state: fraction(number, divisor) for state, (number, divisor) in zip(table.states, rates)}
    total = fraction(0)
    for _, state, kilos in balances_of(table, acts):
        total = added(total, fraction(kilos * shares[state][0], shares[state][1]))
    return total


def ledger(table, messages):
    """The balances, the numbers of the executed acts in their order, and the pending numbers."""
    check_messages(table, messages)
    return ledger_of(table, messages)


def acts_until(acts, time):
    """Those of some acts that have this time or an earlier one."""
    return [act for act in acts if act[2] <= time]


def balances_at(table, messages, time):
    """The balances at a time."""
    check_messages(table, messages)
    return balances_of(table, acts_until(executed_acts(table, messages), time))


def effect_of(table, messages, message):
    """The changes from messages to the messages with one more."""
    more = [*messages, message]
    check_messages(table, more)
    return changes_between(table, messages, more)


def is_cleared(table, messages, item):
    """True if an act about an item is executed, and nothing of it is in a state from which it can be moved."""
    check_messages(table, messages)
    acts = [act for act in executed_acts(table, messages) if act[3] == item]
    return bool(acts) and not any([table.following(state) for _, state, _ in balances_of(table, acts)])


def bond_at(table, messages, rates, time):
    """The bond at a time."""
    check_messages(table, messages)
    check_rates(table, rates)
    return bond_of(table, acts_until(executed_acts(table, messages), time), rates)


def peak_bond(table, messages, rates):
    """The first time at which the bond is the greatest, and this bond."""
    check_messages(table, messages)
    check_rates(table, rates)
    acts = executed_acts(table, messages)
    best = (0, bond_of(table, acts_until(acts, 0), rates))
    # The acts stand by their times; between them the bond stays as it is.
    for act in acts:
        bond = bond_of(table, acts_until(acts, act[2]), rates)
        if is_less(best[1], bond):
            best = (act[2], bond)
    return best


def routes(table, start, stop):
    """All routes from a state to another one, in the order of the numbers of their states."""
    check_known(table, (start, stop))
    found = []
    # The route that is to be looked at next stands last.
    open_routes = [(start,)]
    while open_routes:
        route = open_routes.pop()
        if route[-1] == stop:
            found.append(route)
        else:
            further = [(*route, state) for state in table.following(route[-1]) if state not in route]
            open_routes.extend(further[::-1])
    return tuple(found)


def shortest_route(table, start, stop):
    """The first of the routes with the fewest states, or None."""
    found = routes(table, start, stop)
    if not found:
        return None
    fewest = min([len(route) for route in found])
    return [route for route in found if len(route) == fewest][0]


class CustomsLog:
    """Keeps messages, one after another."""

    def __init__(self, table):
        self._table = table
        self._messages = []

    def append(self, message):
        """Append a message; return the changes that it makes."""
        changes = effect_of(self._table, self._messages, message)
        if len(self._messages) == MOST_MESSAGES:
            raise TooManyMessages("there are 200 messages")
        self._messages.append(tuple(message))
        return changes

    def undo(self):
        """Take the last message away; return how many remain."""
        if not self._messages:
            raise NothingToUndo("there is no message")
        self._messages.pop()
        return len(self._messages)

    def messages(self):
        """The messages."""
        return tuple(self._messages)

    def ledger(self):
        """The ledger of the messages."""
        return ledger_of(self._table, self._messages)

    def __len__(self):
        return len(self._messages)
