"""[B5] and quaybest.channel."""

import random

from quaybest.channel import BookingCancelled, Channel, NoBooking, TooManyBookings
from quaybest.tides import BadSills, BadTide
from support import Case
from test_tides import BAD_SILLS, BAD_TIDES, EXAMPLE, some_sills, some_tides, told_deepest

FLAT = ((0, 100), (2000, 100))


def turned(sills):
    length = sills[-1][0]
    return tuple((length - after, depth) for after, depth in reversed(sills))


class Model:
    """The channel by the words of [B5], minute by minute."""

    def __init__(self, tide, sills, headway):
        self.headway = headway
        self.length = sills[-1][0]
        self.last = tide[-1][0]
        self.deepest = {way: {start: told_deepest(tide, row, start) for start in range(self.last + 1)}
                        for way, row in (("in", sills), ("out", turned(sills)))}
        self.made = []
        self.cancelled = []

    def active(self):
        return [row for row in self.made if row[0] not in self.cancelled]

    def is_free(self, direction, start):
        minutes = set(range(start, start + self.length + 1))
        for _, _, way, other in self.active():
            if way == direction and abs(start - other) < self.headway:
                return False
            if way != direction and minutes & set(range(other, other + self.length + 1)):
                return False
        return True

    def book(self, draught, direction, start):
        for at in range(max(start, 0), self.last + 1):
            deep = self.deepest[direction][at]
            if deep is not None and deep >= draught and self.is_free(direction, at):
                self.made.append((len(self.made), draught, direction, at))
                return len(self.made) - 1, at
        return None

    def bookings(self):
        return tuple(sorted(self.active(), key=lambda row: (row[3], row[0])))


class ChannelTest(Case):
    """[B5]: bookings."""

    def test_first_booking(self):
        channel = Channel(EXAMPLE, ((0, 0), (10, 50)), 5)
        self.same(channel.book(300, "in", 0), (0, 180))
        self.same(channel.bookings(), ((0, 300, "in", 180),))

    def test_ship_that_goes_out(self):
        tide = ((0, 0), (100, 1000))
        sills = ((0, 0), (10, 0), (40, 500))
        channel = Channel(tide, sills, 0)
        wanted = next(start for start in range(61) if told_deepest(tide, ((0, 500), (30, 0), (40, 0)), start) >= 600)
        self.same(channel.book(600, "out", 0), (0, wanted))
        self.assertNotEqual(Channel(tide, sills, 0).book(600, "in", 0), (0, wanted))

    def test_headway(self):
        channel = Channel(FLAT, ((0, 100), (30, 100)), 7)
        self.same(channel.book(150, "in", 50), (0, 50))
        self.same(channel.book(150, "in", 44), (1, 57))
        self.same(channel.book(150, "in", 43), (2, 43))
        self.same(channel.book(150, "in", 0), (3, 0))

    def test_headway_of_zero_and_one(self):
        channel = Channel(FLAT, ((0, 100), (30, 100)), 0)
        self.assertEqual([channel.book(100, "in", 9) for _ in range(3)], [(0, 9), (1, 9), (2, 9)])
        channel = Channel(FLAT, ((0, 100), (30, 100)), 1)
        self.assertEqual([channel.book(100, "in", 9) for _ in range(3)], [(0, 9), (1, 10), (2, 11)])

    def test_other_direction(self):
        channel = Channel(FLAT, ((0, 100), (30, 100)), 7)
        channel.book(150, "in", 100)
        self.same(channel.book(150, "out", 70), (1, 131))
        self.same(channel.book(150, "out", 69), (2, 69))
        self.same(channel.book(150, "in", 107), (3, 162))

    def test_length_of_zero(self):
        channel = Channel(FLAT, ((0, 100),), 3)
        self.assertEqual([channel.book(0, "in", 5), channel.book(0, "out", 5), channel.book(0, "out", 5)],
                         [(0, 5), (1, 6), (2, 9)])

    def test_no_such_minute(self):
        channel = Channel(FLAT, ((0, 100), (30, 100)), 7)
        self.assertIsNone(channel.book(201, "in", 0))
        self.assertIsNone(channel.book(200, "in", 1971))
        self.same(channel.book(200, "in", 1970), (0, 1970))
        self.same(channel.bookings(), ((0, 200, "in", 1970),))

    def test_cancel(self):
        channel = Channel(FLAT, ((0, 100), (30, 100)), 7)
        for start in (50, 10, 30):
            channel.book(0, "in", start)
        self.same(channel.cancel(1), 2)
        self.same(channel.bookings(), ((2, 0, "in", 30), (0, 0, "in", 50)))
        self.refused(BookingCancelled, channel.cancel, 1)
        self.same(channel.book(5, "in", 10), (3, 10))
        self.refused(BookingCancelled, channel.cancel, 1)
        for number in (-1, 4, 99):
            self.refused(NoBooking, channel.cancel, number)
        self.assertEqual([channel.cancel(number) for number in (0, 2, 3)], [2, 1, 0])

    def test_bookings_at_one_start(self):
        channel = Channel(FLAT, ((0, 100), (30, 100)), 0)
        for draught in (9, 3, 7):
            channel.book(draught, "in", 4)
        self.same(channel.bookings(), ((0, 9, "in", 4), (1, 3, "in", 4), (2, 7, "in", 4)))

    def test_two_hundred_bookings(self):
        channel = Channel(FLAT, ((0, 100),), 0)
        for number in range(200):
            self.assertIsNone(channel.book(201, "in", 0))
            self.assertEqual(channel.book(0, "in", 1), (number, 1))
        self.refused(TooManyBookings, channel.book, 0, "in", 0)
        self.refused(TooManyBookings, channel.book, 201, "in", 0)
        self.assertEqual(channel.cancel(199), 199)
        self.refused(TooManyBookings, channel.book, 0, "in", 0)

    def test_wrong_tides_and_sills(self):
        for tide, number in BAD_TIDES:
            self.refused(BadTide, Channel, tide, [], 5, told={"number": number})
        for sills, number in BAD_SILLS:
            self.refused(BadSills, Channel, EXAMPLE, sills, 5, told={"number": number})

    def test_random_bookings(self):
        chance = random.Random(1)
        for tide in some_tides(2, 40, 40):
            sills = some_sills(chance)
            headway = chance.choice((0, 1, 2, 7, 1000))
            channel, model = Channel(tide, sills, headway), Model(tide, sills, headway)
            for _ in range(25):
                if chance.random() < 0.25 and model.made:
                    number = chance.randrange(len(model.made))
                    if number in model.cancelled:
                        self.refused(BookingCancelled, channel.cancel, number)
                    else:
                        model.cancelled.append(number)
                        self.same(channel.cancel(number), len(model.active()))
                else:
                    told = (chance.choice((0, 50, 500, 1000)), chance.choice(("in", "out")),
                            chance.randint(-2, tide[-1][0] + 2))
                    self.same(channel.book(*told), model.book(*told))
                self.same(channel.bookings(), model.bookings())

    def test_later_changes_of_arguments(self):
        tide, sills = [[0, 100], [2000, 100]], [[0, 100], [30, 100]]
        channel = Channel(tide, sills, 7)
        tide[0][0] = 1900
        sills[1][1] = 0
        sills.append([40, 0])
        self.assertEqual(channel.book(200, "in", 0), (0, 0))
