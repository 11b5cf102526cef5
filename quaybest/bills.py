"""Bills within bills: what they list, whether their totals match, and tallies against them."""

from quaybest.counts import check_counts, negated, summed
from quaybest.errors import QuayError

GREATEST_TOTAL = 1000000000
MOST_BILLS = 12
DEEPEST = 3
LONGEST_NAME = 12
MOST_SHEETS = 100


class BadBill(QuayError):
    """A bill is not as it should be."""

    def __init__(self, path, reason):
        self.path = path
        self.reason = reason


class NoBill(QuayError):
    """No bill stands at a path, or it is the outermost one."""


class NegativeTotal(QuayError):
    """A total would be less than 0."""


class BadSheet(QuayError):
    """A sheet has no name of 1 to 12 characters."""


class TooManySheets(QuayError):
    """There are as many sheets as there may be."""


def check_inner(bill, path):
    """Raise the first error of a bill at a path, and then of those in it."""
    total, lines, bills = bill
    if total < 0 or total > GREATEST_TOTAL:
        raise BadBill(path, "total")
    check_counts(lines)
    if len(bills) > MOST_BILLS:
        raise BadBill(path, "bills")
    if bills and len(path) + 1 == DEEPEST:
        raise BadBill(path, "depth")
    for number, inner in enumerate(bills):
        check_inner(inner, (*path, number))


def check_bill(bill):
    """Raise BadBill or BadCounts unless a bill is allowed."""
    check_inner(bill, ())


def bills_within(bill, path):
    """Pairs of a path and a bill, for a bill at a path and all in it: each with all in it ahead of the next."""
    found = [(path, bill)]
    for number, inner in enumerate(bill[2]):
        found.extend(bills_within(inner, (*path, number)))
    return found


def is_matching(bill):
    """True if the total of a bill is what its lines and the bills directly in it come to."""
    return bill[0] == sum(list(bill[1].values())) + sum([inner[0] for inner in bill[2]])


def roll_up(bill):
    """The sum of the lines of a bill and of all bills in it."""
    check_bill(bill)
    return summed([inner[1] for _, inner in bills_within(bill, ())])


def first_mismatch(bill):
    """The path of the first bill that does not match, or None."""
    check_bill(bill)
    for path, inner in bills_within(bill, ()):
        if not is_matching(inner):
            return path
    return None


def bill_at(bill, path):
    """The bill at a path."""
    found = bill
    for number in path:
        if number < 0 or number >= len(found[2]):
            raise NoBill("no bill stands at the path")
        found = found[2][number]
    return found


def copied(bill):
    """A bill as tuples and dicts of its own."""
    total, lines, bills = bill
    return total, {code: lines[code] for code in sorted(lines)}, tuple([copied(inner) for inner in bills])


def without(bill, path, total):
    """A bill, as tuples and dicts, without the one at a path, whose total is taken off the totals around it."""
    if bill[0] < total:
        raise NegativeTotal("a total would be less than 0")
    place = path[0]
    # Behind the last step of the path nothing is left of the bill.
    kept = () if len(path) == 1 else (without(bill[2][place], path[1:], total),)
    return bill[0] - total, bill[1], (*bill[2][:place], *kept, *bill[2][place + 1:])


def remove_bill(bill, path):
    """A bill without the one at a path."""
    check_bill(bill)
    removed = bill_at(bill, path)
    if not path:
        raise NoBill("the outermost bill stays")
    return without(copied(bill), path, removed[0])


class Tally:
    """Keeps sheets of counts, each with a name."""

    def __init__(self):
        self._sheets = {}

    def add(self, name, counts):
        """Take a sheet in; return False, and change nothing, if there is one with its name."""
        if len(name) < 1 or len(name) > LONGEST_NAME:
            raise BadSheet("a name has 1 to 12 characters")
        check_counts(counts)
        if name in self._sheets:
            return False
        if len(self._sheets) == MOST_SHEETS:
            raise TooManySheets("there are 100 sheets")
        self._sheets[name] = summed([counts])
        return True

    def remove(self, name):
        """Take a sheet out; return False if there is none with this name."""
        if name not in self._sheets:
            return False
        del self._sheets[name]
        return True

    def total(self):
        """The sum of the sheets."""
        return summed(list(self._sheets.values()))

    def compare(self, bill):
        """The change that leads from what a bill rolls up to, to the total."""
        return summed([self.total(), negated(roll_up(bill))])

    def __len__(self):
        return len(self._sheets)
