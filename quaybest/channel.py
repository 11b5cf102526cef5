"""A channel over sills: bookings of ships that come in and go out."""

from quaybest.errors import QuayError
from quaybest.tides import check_sills, check_tide, starts_for


class NoBooking(QuayError):
    """No booking has this number."""


class BookingCancelled(QuayError):
    """A booking was cancelled before."""


class TooManyBookings(QuayError):
    """As many bookings were made as may be."""


def outward(sills):
    """Inward sills as a ship meets them that goes out."""
    length = sills[-1][0]
    return tuple([(length - after, depth) for after, depth in sills[::-1]])


def first_outside(rows, blocked, least):
    """The first minute from this one on that the set of minutes contains and no blocked pair; or None."""
    ordered = sorted(blocked)
    for start, stop in rows:
        minute = max(start, least)
        # Ascending pairs: what does not block the minute now does not block a later one either.
        for first, last in ordered:
            if first <= minute <= last:
                minute = last + 1
        if minute <= stop:
            return minute
    return None


class Channel:
    """Keeps the bookings of a channel."""

    def __init__(self, tide, sills, headway):
        check_tide(tide)
        check_sills(sills)
        self._tide = tuple([(minute, height) for minute, height in tide])
        inward = tuple([(after, depth) for after, depth in sills])
        self._sills = {"in": inward, "out": outward(inward)}
        self._length = inward[-1][0]
        self._headway = headway
        self._made = 0
        # The active bookings, each (number, draught, direction, start), in the order of their numbers.
        self._active = []

    def book(self, draught, direction, start):
        """Book the first minute from start on that is passable and free; or return None."""
        if self._made == 200:
            raise TooManyBookings("200 bookings were made")
        rows = starts_for(self._tide, self._sills[direction], draught)
        found = first_outside(rows, self._blocked(direction), start)
        if found is None:
            return None
        number = self._made
        self._active.append((number, draught, direction, found))
        self._made += 1
        return number, found

    def cancel(self, number):
        """Make a booking inactive; return how many are active then."""
        if number < 0 or number >= self._made:
            raise NoBooking("no booking has this number")
        kept = [row for row in self._active if row[0] != number]
        if len(kept) == len(self._active):
            raise BookingCancelled("the booking was cancelled before")
        self._active = kept
        return len(kept)

    def bookings(self):
        """The active bookings, by their starts, then by their numbers."""
        ordered = sorted([(start, number, draught, direction) for number, draught, direction, start in self._active])
        return tuple([(number, draught, direction, start) for start, number, draught, direction in ordered])

    def _blocked(self, direction):
        """Pairs of the first and the last start that an active booking keeps from a direction."""
        blocked = []
        for row in self._active:
            # Two of one direction may be just the headway apart (with headway 0 the pair is empty);
            # of two directions the one must have left the channel.
            kept = self._headway - 1 if row[2] == direction else self._length
            blocked.append((row[3] - kept, row[3] + kept))
        return blocked
