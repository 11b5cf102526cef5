"""Tariffs: formulas that are in force for headings from days on."""

from quaybest.errors import QuayError
from quaybest.formulas import duty, read_formula, write_formula
from quaybest.messages import ITEM_CHARACTERS, is_word

LAST_DAY = 100000
LONGEST_HEADING = 8
MOST_ENTRIES = 200


class TariffError(QuayError):
    """What a tariff refuses."""


class BadHeading(TariffError):
    """A text is no heading."""


class BadDay(TariffError):
    """A number is no day."""


class TooManyEntries(TariffError):
    """There are as many entries as there may be."""


class NoEntry(TariffError):
    """There is no entry with this heading and day."""


class NotInForce(TariffError):
    """No formula is in force for a heading on a day."""


def check_day(day):
    """Raise BadDay unless a number is a day."""
    if day < 0 or day > LAST_DAY:
        raise BadDay("a day is a number from 0 to 100000")


def check_entry(heading, day):
    """Raise BadHeading or BadDay unless a heading and a day are such."""
    if not is_word(heading, ITEM_CHARACTERS, LONGEST_HEADING):
        raise BadHeading("a heading has 1 to 8 capital letters and digits")
    check_day(day)


class Tariff:
    """Keeps the entries of a tariff."""

    def __init__(self):
        # The tree of each (heading, day).
        self._trees = {}

    def enter(self, heading, day, text):
        """Enter a formula; return the text of the one in whose place it is, or None."""
        check_entry(heading, day)
        tree = read_formula(text)
        before = self._trees.get((heading, day))
        if before is None and len(self._trees) == MOST_ENTRIES:
            raise TooManyEntries("there are 200 entries")
        self._trees[(heading, day)] = tree
        return None if before is None else write_formula(before)

    def remove(self, heading, day):
        """Remove an entry; return the text of its formula."""
        check_entry(heading, day)
        if (heading, day) not in self._trees:
            raise NoEntry("there is no such entry")
        tree = self._trees[(heading, day)]
        del self._trees[(heading, day)]
        return write_formula(tree)

    def formula_on(self, heading, day):
        """The text of the formula in force, or None."""
        tree = self._in_force(heading, day)
        return None if tree is None else write_formula(tree)

    def duty(self, heading, day, value, weight):
        """The duty by the formula in force."""
        tree = self._in_force(heading, day)
        if tree is None:
            raise NotInForce("no formula is in force")
        return duty(tree, value, weight)

    def headings(self, day):
        """The headings for which a formula is in force, ascending."""
        check_day(day)
        return tuple(sorted(set([heading for heading, start in self._trees if start <= day])))

    def entries(self):
        """The entries as (heading, day, text of the formula), ascending."""
        return tuple(sorted([(heading, day, write_formula(tree)) for (heading, day), tree in self._trees.items()]))

    def _in_force(self, heading, day):
        """The tree of the formula in force, or None."""
        check_entry(heading, day)
        days = [start for other, start in self._trees if other == heading and start <= day]
        return self._trees[(heading, max(days))] if days else None

    def __len__(self):
        return len(self._trees)
