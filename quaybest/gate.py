"""The truck gate: windows, quotas, schedules, and lanes for stays."""

from quaybest.errors import QuayError


class NoSlot(QuayError):
    """The day has no such slot."""


class Past(QuayError):
    """A slot is past."""


class NoTruck(QuayError):
    """No truck has this number, or it is not waiting."""


class TooMany(QuayError):
    """There are more trucks, or it is more of a quota, than there may be."""


class Full(QuayError):
    """More trucks would be required in an interval than its capacity."""

    def __init__(self, start, stop):
        self.start = start
        self.stop = stop


def called(queue, slot, quota):
    """The numbers of the trucks that get a slot, in their order, of a queue of (number, start, stop)."""
    ready = sorted([(stop, number) for number, start, stop in queue if start <= slot])
    return [number for _, number in ready[:quota]]


def scheduled(quotas, queue, slot):
    """The slots by number of a queue of (number, start, stop), from a slot on; None if there is no schedule."""
    found = {}
    for at in range(slot, len(quotas)):
        left = [row for row in queue if row[0] not in found]
        for number in called(left, at, quotas[at]):
            found[number] = at
        if [row for row in left if row[2] == at and row[0] not in found]:
            return None
    return found


def queue_of(trucks):
    """The trucks as rows (number, start, stop)."""
    return [(number, start, stop) for number, (start, stop) in enumerate(trucks)]


def intervals_of(quotas, trucks, slot):
    """All intervals from a slot on, in order, each (start, stop, required, capacity)."""
    found = []
    for start in range(slot, len(quotas)):
        for stop in range(start, len(quotas)):
            required = len([row for row in trucks if start <= row[0] and row[1] <= stop])
            found.append((start, stop, required, sum(quotas[start:stop + 1])))
    return found


def excess_from(quotas, trucks, slot):
    """The first interval from a slot on in which more trucks are required than its capacity, or None."""
    for row in intervals_of(quotas, trucks, slot):
        if row[2] > row[3]:
            return row
    return None


def spare_in(rows, start, stop):
    """How many more trucks all of these intervals could take that contain the slots from start to stop."""
    return min([row[3] - row[2] for row in rows if row[0] <= start and stop <= row[1]])


def schedule(quotas, trucks):
    """The slots of the trucks in the schedule, or None."""
    found = scheduled(quotas, queue_of(trucks), 0)
    if found is None:
        return None
    return tuple([found[number] for number in range(len(trucks))])


def first_excess(quotas, trucks):
    """The first interval with too many trucks, as (start, stop, required, capacity), or None."""
    return excess_from(quotas, trucks, 0)


def possible_slots(quotas, trucks, truck):
    """The slots that a truck has in some schedule, ascending."""
    start, stop = trucks[truck]
    found = []
    for slot in range(start, stop + 1):
        fixed = [(slot, slot) if number == truck else window for number, window in enumerate(trucks)]
        if schedule(quotas, fixed) is not None:
            found.append(slot)
    return tuple(found)


def largest_set(quotas, trucks):
    """The numbers of a largest set of trucks that has a schedule, the first of several."""
    # A set that has a schedule can always be made larger by a truck of a larger one that has: so it is
    # enough to take each truck with which those that were taken still have one.
    taken = []
    for row in queue_of(trucks):
        if scheduled(quotas, [*taken, row], 0) is not None:
            taken.append(row)
    return tuple([row[0] for row in taken])


def extra_capacity(quotas, trucks, window):
    """How many more trucks with a window there can be so that all have a schedule; None if they have none now."""
    if schedule(quotas, trucks) is None:
        return None
    return spare_in(intervals_of(quotas, trucks, 0), window[0], window[1])


def spare_quotas(quotas, trucks):
    """By how much the quota of each slot, it alone, can be reduced; None if there is no schedule now."""
    if schedule(quotas, trucks) is None:
        return None
    rows = intervals_of(quotas, trucks, 0)
    return tuple([spare_in(rows, slot, slot) for slot in range(len(quotas))])


def occupancy(stays):
    """Pairs of a minute and the number of stays, for each minute at which it is another one than ahead of it."""
    changes = {}
    for first, last in stays:
        changes[first] = changes.get(first, 0) + 1
        changes[last + 1] = changes.get(last + 1, 0) - 1
    found = []
    number = 0
    for minute in sorted(changes):
        number += changes[minute]
        if changes[minute] != 0:
            found.append((minute, number))
    return tuple(found)


def lanes(stays):
    """The lanes of the stays, given in the order of their first minutes."""
    found = [0] * len(stays)
    # The last minute of the stay that had each lane last.
    ends = []
    for first, number in sorted([(stay[0], index) for index, stay in enumerate(stays)]):
        lane = 0
        while lane < len(ends) and ends[lane] >= first:
            lane += 1
        if lane == len(ends):
            ends.append(first)
        found[number] = lane
        ends[lane] = stays[number][1]
    return tuple(found)


class Gate:
    """Keeps the quotas of a day and the trucks that are booked."""

    def __init__(self, quotas):
        self.slot = 0
        self._quotas = list(quotas)
        # The windows of all trucks that were booked, and those that are waiting, ascending.
        self._windows = []
        self._queue = []
        self._calls = []

    def book(self, start, stop):
        """Book a truck with a window; return its number."""
        if start < 0 or stop < start or stop >= len(self._quotas):
            raise NoSlot("this is no window of the slots")
        if stop < self.slot:
            raise Past("the last slot is past")
        if len(self._windows) == 120:
            raise TooMany("120 trucks were booked")
        number = len(self._windows)
        windows = [*self._windows, (start, stop)]
        queue = [*self._queue, number]
        self._check_room(self._quotas, windows, queue)
        self._windows = windows
        self._queue = queue
        return number

    def cancel(self, truck):
        """Take a waiting truck off the queue; return how many are waiting then."""
        if truck not in self._queue:
            raise NoTruck("the truck is not waiting")
        self._queue = [other for other in self._queue if other != truck]
        return len(self._queue)

    def reduce(self, slot, by):
        """Reduce the quota of a slot; return it."""
        if slot < 0 or slot >= len(self._quotas):
            raise NoSlot("the day has no such slot")
        if slot < self.slot:
            raise Past("the slot is past")
        if by < 1 or by > self._quotas[slot]:
            raise TooMany("the quota cannot be reduced by so many")
        quotas = list(self._quotas)
        quotas[slot] -= by
        self._check_room(quotas, self._windows, self._queue)
        self._quotas = quotas
        return quotas[slot]

    def advance(self):
        """Call trucks into the current slot; return their numbers. The next slot is the current one then."""
        if self.slot == len(self._quotas):
            raise Past("the current slot is behind the last one")
        numbers = called(self._rows(), self.slot, self._quotas[self.slot])
        self._calls.extend([(number, self.slot) for number in numbers])
        self._queue = [number for number in self._queue if number not in numbers]
        self.slot += 1
        return tuple(numbers)

    def calls(self):
        """The trucks that were called, with their slots, in the order of the calls."""
        return tuple(self._calls)

    def waiting(self):
        """The waiting trucks as (truck, start, stop, slot), with their windows as booked and their slots as planned."""
        slots = scheduled(self._quotas, self._rows(), self.slot)
        return tuple([(number, start, stop, slots[number]) for number, start, stop in self._rows()])

    def window(self, truck):
        """The window of a truck that was booked."""
        if truck < 0 or truck >= len(self._windows):
            raise NoTruck("no truck has this number")
        return self._windows[truck]

    def quotas(self):
        """The present quotas."""
        return tuple(self._quotas)

    def _rows(self):
        """The waiting trucks as (number, start, stop)."""
        return [(number, *self._windows[number]) for number in self._queue]

    def _check_room(self, quotas, windows, queue):
        """Raise Full if an interval of the slots that are left would have too many trucks."""
        left = [(max(windows[number][0], self.slot), windows[number][1]) for number in queue]
        excess = excess_from(quotas, left, self.slot)
        if excess is not None:
            raise Full(excess[0], excess[1])
