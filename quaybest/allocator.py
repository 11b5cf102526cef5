"""The allocator: it issues the assignable codes of one prefix, and never one of them twice."""

from quaybest.codes import check_assignable
from quaybest.errors import QuayError
from quaybest.ranks import code_at, ending_counts, many_codes, rank_in


class AllocatorError(QuayError):
    """What an allocator refuses."""


class BadCount(AllocatorError):
    """Not 1 to 200 codes are asked for."""


class LimitReached(AllocatorError):
    """There were as many operations as there may be."""


class NotEnough(AllocatorError):
    """The prefix has fewer codes left than are asked for."""


class NotIssued(AllocatorError):
    """A code that should be revoked is not issued."""


class NothingToUndo(AllocatorError):
    """No operation is in effect."""


class Allocator:
    """Issues the codes of one prefix in the order of their ranks, and revokes them."""

    def __init__(self, code):
        check_assignable(code)
        self._counts = ending_counts()
        self._prefix = code[:4]
        self._first = rank_in(self._counts, code)
        self._following = self._first
        self._made = 0
        # The operations in effect, each (word, its first rank, the rank behind its last one).
        self._effective = []
        self._revoked = {}

    def issue(self, count):
        """Issue the next codes, so many."""
        if count < 1 or count > 200:
            raise BadCount("an issue is of 1 to 200 codes")
        self._check_limit()
        stop = self._following + count
        if stop > many_codes(self._counts, self._prefix):
            raise NotEnough("the prefix has not so many codes left")
        self._perform("issue", self._following, stop)
        codes = self._codes(self._following, stop)
        self._following = stop
        return codes

    def revoke(self, code):
        """Revoke an issued code; return how many are issued then."""
        check_assignable(code)
        self._check_limit()
        if self.status(code) != "issued":
            raise NotIssued("the code is not issued")
        number = rank_in(self._counts, code)
        self._perform("revoke", number, number + 1)
        self._revoked[number] = True
        return sum([stop - start for start, stop in self._issues()]) - len(self._revoked)

    def undo(self):
        """Undo the last operation in effect; return its codes."""
        if not self._effective:
            raise NothingToUndo("no operation is in effect")
        word, start, stop = self._effective.pop()
        if word == "revoke":
            del self._revoked[start]
        return self._codes(start, stop)

    def status(self, code):
        """What has become of an assignable code."""
        check_assignable(code)
        number = rank_in(self._counts, code)
        if code[:4] != self._prefix or number < self._first:
            return "excluded"
        if number >= self._following:
            return "available"
        if number in self._revoked:
            return "revoked"
        if any([start <= number < stop for start, stop in self._issues()]):
            return "issued"
        return "retired"

    def ranges(self):
        """The fewest ranges that hold exactly the issued codes."""
        runs = []
        for start, stop in self._issues():
            for number in range(start, stop):
                if number in self._revoked:
                    continue
                if runs and runs[-1][1] == number - 1:
                    runs[-1] = (runs[-1][0], number)
                else:
                    runs.append((number, number))
        return tuple([(self._code(first), self._code(last)) for first, last in runs])

    def _check_limit(self):
        if self._made == 100:
            raise LimitReached("there were 100 operations")

    def _perform(self, word, start, stop):
        self._effective.append((word, start, stop))
        self._made += 1

    def _issues(self):
        """Pairs of the first rank and the one behind the last, of the issues in effect, ascending."""
        return [(start, stop) for word, start, stop in self._effective if word == "issue"]

    def _code(self, number):
        return code_at(self._counts, self._prefix, number)

    def _codes(self, start, stop):
        return tuple([self._code(number) for number in range(start, stop)])
