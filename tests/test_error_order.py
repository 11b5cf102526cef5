"""The order of the errors in parts B, C, G and I, where several are due at once."""

import itertools

from quaybest import berths, cranes, intervals, lashing, moments, tides
from quaybest.channel import BookingCancelled, Channel, NoBooking, TooManyBookings
from quaybest.deck import (Deck, NoBox, NoReach, NoStack, StackEmpty, StackFull, TooFewRods, TooManyRods, WouldNotHold)
from quaybest.quays import BadShip, NoShip, Quay, QuayFull
from quaybest.rail import CraneRail, NoCrane, NoPosition
from support import Case
from test_lashing import gear

# Faults of intervals, tides and sills: the wrong value and the number that is told; what is told first stands first.
INTERVALS = [([(5, 4)] * 2001, None), ([(5, 4), (9, 1)], 0), ([(0, 1), (2, 3), (9, 8)], 1)]
TIDES = [([(-1, 9999)], None), ([(0, -501), (0, 0)], 0), ([(0, 0), (0, 5000), (-3, 0)], 1)]
SILLS = [([(1, -1)] * 13, None), ([(1, -1), (1, 5000)], 0), ([(0, 0), (0, 5000), (-5, 0)], 1)]
GOOD_TIDE = [(0, 0), (360, 600), (720, 60)]
GOOD_SILLS = [(0, 100)]


class WaterTest(Case):
    """Part B."""

    def test_intervals(self):
        for call in (intervals.intersection, intervals.union, intervals.difference):
            for (first, number), (second, later) in itertools.product(INTERVALS, repeat=2):
                self.refused(intervals.BadIntervals, call, first, second, told={"number": number})
                self.refused(intervals.BadIntervals, call, [], second, told={"number": later})

    def test_intervals_before_minutes_that_are_too_late(self):
        for rows, number in INTERVALS:
            self.refused(intervals.BadIntervals, intervals.dilated, rows, 200000, told={"number": number})
            self.refused(intervals.BadIntervals, intervals.eroded, rows, 200000, told={"number": number})
        self.refused(intervals.TooLate, intervals.dilated, [(0, 100000)], 2)

    def test_tides_before_sills(self):
        calls = [lambda tide, sills: tides.passable_starts(tide, sills, 9),
                 lambda tide, sills: tides.deepest_draught(tide, sills, 9),
                 lambda tide, sills: tides.deepest_draught_in(tide, sills, 9, 9),
                 lambda tide, sills: Channel(tide, sills, 9)]
        for call in calls:
            for tide, number in TIDES:
                for sills, _ in [*SILLS, (GOOD_SILLS, None)]:
                    self.refused(tides.BadTide, call, tide, sills, told={"number": number})
            for sills, number in SILLS:
                self.refused(tides.BadSills, call, GOOD_TIDE, sills, told={"number": number})

    def test_tides_alone(self):
        for tide, number in TIDES:
            self.refused(tides.BadTide, tides.level, tide, -5, told={"number": number})
            self.refused(tides.BadTide, tides.minutes_at_least, tide, 9, told={"number": number})

    def test_bookings(self):
        channel = Channel([(0, 0), (100000, 0)], GOOD_SILLS, 0)
        for _ in range(200):
            channel.book(0, "in", 0)
        # There is no minute for this draught: the number of bookings is told first.
        self.refused(TooManyBookings, channel.book, 5000, "in", 0)
        channel.cancel(0)
        self.refused(TooManyBookings, channel.book, 5000, "out", 0)
        self.refused(NoBooking, channel.cancel, 200)
        self.refused(BookingCancelled, channel.cancel, 0)


class QuayTest(Case):
    """Part C."""

    def test_plans(self):
        ships = [(0, 2, 5, 5), (0, 2, 5, 5), (1, 2, 5, 5)]
        for call in (berths.waiting, berths.compacted):
            self.refused(berths.TooEarly, call, ships, [6, 4, 3], told={"ship": 1})
            self.refused(berths.TooEarly, call, ships, [5, 5, 4], told={"ship": 2})
            self.refused(berths.Overlapping, call, ships, [5, 5, 5], told={"ships": (0, 1)})
            self.refused(berths.Overlapping, call, ships, [5, 20, 6], told={"ships": (0, 2)})
            self.refused(berths.Overlapping, call, ships, [5, 20, 21], told={"ships": (1, 2)})

    def test_arrivals(self):
        quay = Quay(5)
        for _ in range(24):
            quay.arrive((0, 1, 0, 1))
        for place, minutes in itertools.product(((-1, 1), (0, 6), (5, 1), (0, 0)), ((-1, 1), (0, 0), (-1, 0), (0, 1))):
            self.refused(BadShip, quay.arrive, (*place, *minutes), told={"reason": "place"})
        for minutes in ((-1, 1), (0, 0), (-1, 0)):
            self.refused(BadShip, quay.arrive, (0, 1, *minutes), told={"reason": "minutes"})
        self.refused(QuayFull, quay.arrive, (0, 1, 0, 1))

    def test_changes(self):
        quay = Quay(5)
        quay.arrive((0, 1, 0, 1))
        for call in (quay.delay, quay.prolong):
            self.refused(NoShip, call, 1, 0)
            self.refused(NoShip, call, -1, -5)
            self.refused(BadShip, call, 0, 0, told={"reason": "minutes"})


class LashingTest(Case):
    """Part G."""

    def test_gear(self):
        names = ("joint", "rod", "reach", "rods", "weight", "post")
        for many in range(1, 7):
            for wrong in itertools.combinations(names, many):
                self.refused(lashing.BadGear, gear, told={"name": wrong[0]}, **{name: 10 ** 7 for name in wrong})

    def test_stacks_before_rods(self):
        stacks = [([0] * 10, None), ([401, 0], 0), ([1, 0, -1], 1)]
        calls = [lambda stack, rods: lashing.violations(stack, gear(), rods, 5),
                 lambda stack, rods: lashing.max_acceleration(stack, gear(), rods),
                 lambda stack, rods: lashing.max_top_weight(stack, gear(), rods, 5)]
        for call in calls:
            for (stack, number), rods in itertools.product(stacks, ([], [9], [9, 9, 9, 9], [0] * 10)):
                self.refused(lashing.BadStack, call, stack, rods, told={"number": number})
            self.refused(lashing.BadRods, call, [1, 1], [9], told={"number": None})
            self.refused(lashing.BadRods, call, [1, 1], [9, 9, 9], told={"number": None})
            self.refused(lashing.BadRods, call, [1, 1], [0, 9], told={"number": 1})
            self.refused(lashing.BadRods, call, [1, 1], [9, 9], told={"number": 0})
        for stack, number in stacks:
            self.refused(lashing.BadStack, lashing.forces, stack, 5, told={"number": number})
            self.refused(lashing.BadStack, lashing.min_rods, stack, gear(weight=0), 5, told={"number": number})

    def test_too_many_boxes_first(self):
        self.refused(moments.BadBoxes, moments.moment, [(0, 0)] * 10, told={"number": None})
        self.refused(moments.BadBoxes, moments.min_moment_order, [(0, 0)] * 10, told={"number": None})
        self.refused(moments.BadBoxes, moments.distribute, [(0, 0)] * 9, 2, told={"number": None})
        self.refused(moments.BadBoxes, moments.moment, [(1, 1), (1, 41), (0, 1)], told={"number": 1})

    def test_boxes_of_a_deck(self):
        deck = Deck(gear(weight=9), 5, 1, 0)
        self.refused(NoStack, deck.drop, 1)
        self.refused(StackEmpty, deck.drop, 0)
        for _ in range(9):
            deck.add(0, 1)
        self.refused(NoStack, deck.add, 1, 400)
        self.refused(StackFull, deck.add, 0, 400)
        deck.drop(0)
        self.refused(WouldNotHold, deck.add, 0, 2, told={"stack": 0})

    def test_rods_of_a_deck(self):
        deck = Deck(gear(rods=2, reach=1, joint=100, rod=50), 10, 2, 2)
        for weight in (5, 5):
            deck.add(0, weight)
        self.refused(NoStack, deck.lash, 2, 9, 4)
        self.refused(NoBox, deck.lash, 0, 2, 4)
        self.refused(NoBox, deck.lash, 1, 0, 4)
        self.refused(NoReach, deck.lash, 0, 1, 4)
        self.refused(TooManyRods, deck.lash, 0, 0, 3)
        deck.lash(0, 0, 2)
        deck.add(0, 5)
        self.refused(TooManyRods, deck.lash, 0, 0, 1)
        self.refused(NoStack, deck.unlash, 2, 9, 4)
        self.refused(NoBox, deck.unlash, 0, 3, 4)
        self.refused(TooFewRods, deck.unlash, 0, 0, 3)
        self.refused(TooFewRods, deck.unlash, 0, 1, 1)
        self.refused(WouldNotHold, deck.unlash, 0, 0, 2, told={"stack": 0})

    def test_first_stack_of_a_deck(self):
        deck = Deck(gear(joint=100), 10, 4, 0)
        for stack, weight in ((1, 2), (2, 10), (3, 9)):
            deck.add(stack, weight)
        self.refused(WouldNotHold, deck.set_acceleration, 12, told={"stack": 2})
        self.refused(WouldNotHold, deck.set_acceleration, 1000, told={"stack": 1})


class CranesTest(Case):
    """Part I."""

    def test_paths(self):
        many = [([(0, 9)] + [(5, 300)] * 2500, None), ([()] + [(5,)], None), ([(300,) * 7, (1,)], None),
                ([(300, 0), (0,)], 0), ([(0, 9), (5,), (300, 9)], 1), ([(0, 9), (5, 9), (5, -1), (5,)], 2)]
        calls = [lambda paths: cranes.first_violation(paths, 12), cranes.uncross, cranes.ranks]
        for call in calls:
            for paths, minute in many:
                self.refused(cranes.BadPaths, call, paths, told={"minute": minute})
        for call in calls[1:]:
            self.refused(cranes.NotStepwise, call, [(0, 9), (0, 9), (2, 9), (5, 5)], told={"minute": 2})

    def test_routes(self):
        for formations, number in (([(1, 0)] * 6, None), ([], None), ([(), (1, 0)], None), ([(0,) * 7], None),
                                   ([(1, 0), (0, 201)], 1), ([(1, 0), (0,), (0, -1)], 1), ([(-1, -2)], 0)):
            self.refused(cranes.BadPaths, cranes.route, formations, 3, told={"minute": number})
        self.refused(cranes.TooClose, cranes.route, [(0, 3), (0, 2), (1, 0)], 3, told={"number": 1})

    def test_sweeps(self):
        for loads, cuts in itertools.product(([10], [0] * 51, [-1]), ([5, 4], [99], [0] * 6, [-1], [])):
            self.refused(cranes.BadSweep, cranes.sweep, loads, cuts, 3, told={"reason": "loads"})
        self.refused(cranes.BadSweep, cranes.sweep, [9], [2], 3, told={"reason": "cuts"})

    def test_rails(self):
        for positions in ((), (300, -5, 1, 1, 1, 1, 1)):
            self.refused(cranes.BadPaths, CraneRail, 3, positions, told={"minute": None})
        for positions in ((201, 0), (5, 5, -1)):
            self.refused(cranes.BadPaths, CraneRail, 3, positions, told={"minute": 0})
        self.refused(cranes.TooClose, CraneRail, 3, (5, 5, 1), told={"number": 0})
        rail = CraneRail(3, (0, 3))
        for crane in (-1, 2):
            self.refused(NoCrane, rail.send, crane, -1)
            self.refused(NoCrane, rail.send, crane, 201)
        self.refused(NoPosition, rail.send, 1, 201)
