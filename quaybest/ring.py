"""A ring service: empties that are asked for, shipped and settled round a ring of ports."""

from quaybest.empties import check_legs, cheapest_flows, to_moves
from quaybest.errors import QuayError

GREATEST_STOCK = 1000
MOST_CHANGES = 300


class BadStock(QuayError):
    """The stock of a port is out of range, or there is another number of ports than of legs."""

    def __init__(self, port):
        self.port = port


class NoPort(QuayError):
    """No port has this number."""


class SamePort(QuayError):
    """Empties should go from a port to itself."""


class TooFewEmpties(QuayError):
    """A port has fewer empties."""


class TooManyChanges(QuayError):
    """There are as many changes as there may be."""


class NothingToUndo(QuayError):
    """There is no change left that could be taken back."""


def check_stock(stock, ports):
    """Raise BadStock with the first wrong port, or with None for another number of ports."""
    if len(stock) != ports:
        raise BadStock(None)
    for port, count in enumerate(stock):
        if count < 0 or count > GREATEST_STOCK:
            raise BadStock(port)


def moved(numbers, start, stop, count):
    """The numbers with so many fewer at one place, and more at another one."""
    found = list(numbers)
    found[start] -= count
    found[stop] += count
    return tuple(found)


class RingService:
    """Keeps the stock of the ports, what is planned there, and what was paid."""

    def __init__(self, legs, stock):
        check_legs(legs)
        check_stock(stock, len(legs))
        self._legs = tuple([tuple(leg) for leg in legs])
        self._stock = tuple(stock)
        self._planned = tuple(stock)
        self._paid = 0
        # Stock, plan and payments ahead of each change that was not taken back.
        self._earlier = []

    def request(self, start, stop, count):
        """Plan so many fewer at one port, and more at another one; return how many are planned there then."""
        self._check_port(start)
        self._check_port(stop)
        if start == stop:
            raise SamePort("the ports are the same")
        if self._planned[start] < count:
            raise TooFewEmpties("fewer are planned there")
        self._change(self._stock, moved(self._planned, start, stop, count), 0)
        return self._planned[stop]

    def ship(self, start, direction, count):
        """Let so many go over one leg; return what that costs."""
        self._check_port(start)
        if self._stock[start] < count:
            raise TooFewEmpties("fewer are in stock there")
        many = len(self._legs)
        if direction == "forward":
            stop = (start + 1) % many
            price = self._legs[start][0] * count
        else:
            stop = (start - 1) % many
            price = self._legs[stop][1] * count
        self._change(moved(self._stock, start, stop, count), self._planned, price)
        return price

    def settle(self):
        """Ship the optimal flows after which the stock is what is planned; return their cost and their moves."""
        surplus = [count - planned for count, planned in zip(self._stock, self._planned)]
        price, flows = cheapest_flows(self._legs, surplus)
        self._change(self._planned, self._planned, price)
        return price, to_moves(flows)

    def undo(self):
        """Take back the last change; return how many there are then."""
        if not self._earlier:
            raise NothingToUndo("no change is left")
        self._stock, self._planned, self._paid = self._earlier.pop()
        return len(self._earlier)

    def stock(self):
        """The stock of each port."""
        return self._stock

    def planned(self):
        """What is planned at each port."""
        return self._planned

    def paid(self):
        """What was paid."""
        return self._paid

    def changes(self):
        """The number of changes."""
        return len(self._earlier)

    def _check_port(self, port):
        if port < 0 or port >= len(self._legs):
            raise NoPort("no port has this number")

    def _change(self, stock, planned, price):
        if len(self._earlier) == MOST_CHANGES:
            raise TooManyChanges("there are 300 changes")
        self._earlier.append((self._stock, self._planned, self._paid))
        self._stock = stock
        self._planned = planned
        self._paid += price
