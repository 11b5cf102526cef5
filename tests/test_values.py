"""[0.1] to [0.3]: whole numbers, lists and tuples, and arguments that stay as they are."""

import copy
import inspect

from quaybest import (allocator, berths, bills, codes, counts, cranes, customs, empties, formulas, fractions, gate,
                      intervals, lashing, messages, misreads, moments, pieces, pipeline, ranks, reefers, segregation, stability, stowage, tariffs,
                      tides, yard)
from quaybest.blocks import YardBlock
from quaybest.channel import Channel
from quaybest.deck import Deck
from quaybest.gate import Gate
from quaybest.holds import Hold
from quaybest.manifolds import Manifold
from quaybest.quays import Quay
from quaybest.rail import CraneRail
from quaybest.reefers import Rack
from quaybest.vessels import Vessel
from quaybest.voyages import Voyage
from support import Case, listed, tupled

CODE = "CSQU3054383"
TIDE = [[0, 0], [360, 600], [720, 60]]
SILLS = [[0, 100], [30, 50]]
SHIPS = [[0, 4, 0, 10], [3, 3, 2, 5], [6, 4, 1, 8], [5, 2, 4, 6], [0, 2, 30, 5]]
PLAN = [0, 10, 1, 15, 30]
PIPE = [[1, 3], [1, 1], [2, 2]]
MIXING = [[0 if p == q else 1 for q in range(8)] for p in range(8)]
CURVE = [[2, 100, 14], [4, 200, 12], [6, 320, 12]]
HULL = stability.Hull([100, 0, 0, 10], CURVE, [[20, 10, 0, 2, 30], [20, -10, 0, 2, 30]], height=1, heel=100, trim=5)
LOADS = [[50, 0, 0, 10], [10, 1, 0, 10]]
ROWS = [[0, 3], [6, 9]]
BOXES = [[0, 3], [1, 4], [2, 5]]
GEAR = lashing.Gear(joint=900, rod=100, reach=9, rods=4, weight=3600, post=3600)
STACK = [5, 4, 3]
TALL = [[10, 2], [10, 3], [4, 1]]
TABLE = [[[0, 1, 2], [1, 0, 3], [2, 3, 1]], [0, 2, 3, 7]]
KINDS = [0, 1, 2, 0]
PATHS = [[0, 5], [1, 4], [2, 3], [3, 2]]
COLUMNS = [[1, 3], [2, 3], [4], [4], []]
REEFERS = [[1, 2, 0, 3, 0], [1, 2, 0, 3, 0]]
QUOTAS = [1, 2, 1]
TRUCKS = [[0, 2], [0, 0], [1, 1]]
STAYS = [[3, 5], [5, 7], [6, 6]]
CUSTOMS = customs.Table(["entry", "bond"], ["entry"], [["entry", "bond"]])
ARRIVAL = ["arrive", 1, 10, "TEA", 300, "entry"]
MESSAGES = [["move", 2, 20, "TEA", 200, "entry", "bond"], ARRIVAL, ["void", 7]]
RATES = [[1, 2], [0, 4]]
TREE = ["greater", ["sum", [["percent", 8], ["kilo", 1]]], ["half", ["less", ["kilo", 30], ["percent", 90]]]]
OTHER = ["kilo", 3]
COUNTS = {"B": 2, "A": 1}
CHANGE = {"C": 3, "B": -1}
BILL = [5, {"B": 1, "A": 1}, [[3, {"C": 3}, []], [0, {}, []]]]
LEGS = [[3, 5], [2, 2], [4, 1]]
SURPLUS = [3, -2, -1]

# Calls of all functions that take lists or tuples, or return tuples.
CALLS = [
    (codes.substitutions, CODE), (codes.transpositions, CODE), (codes.undetected_pairs, 0), (ranks.matches, "CSQU30543??"),
    (ranks.to_ranges, [CODE]), (ranks.expand_ranges, [[CODE, CODE]]), (fractions.fraction, 4, 6),
    (fractions.added, [1, 2], [1, 3]), (fractions.subtracted, [1, 2], [1, 3]), (fractions.multiplied, [1, 2], [1, 3]),
    (fractions.divided, [1, 2], [1, 3]), (fractions.is_less, [1, 3], [1, 2]), (intervals.intersection, ROWS, ROWS),
    (intervals.union, ROWS, [[4, 4]]), (intervals.difference, ROWS, [[1, 1]]), (intervals.eroded, ROWS, 2),
    (intervals.dilated, ROWS, 3), (tides.level, TIDE, 31), (tides.minutes_at_least, TIDE, 300),
    (tides.passable_starts, TIDE, SILLS, 300), (tides.deepest_draught, TIDE, SILLS, 100),
    (tides.deepest_draught_in, TIDE, SILLS, 0, 99), (berths.starts, SHIPS), (berths.critical_chain, SHIPS, 3),
    (berths.slack, SHIPS, 1), (berths.delay_effect, SHIPS, 0, 3), (berths.stay_effect, SHIPS, 0, 3),
    (berths.free_bollards, 12, SHIPS, 3), (berths.conflicts, SHIPS, [0, 0, 0, 0, 0]), (berths.waiting, SHIPS, PLAN),
    (berths.compacted, SHIPS, PLAN), (berths.best_order, SHIPS), (pipeline.normalize, PIPE),
    (pipeline.push_a, PIPE, [[3, 4], [4, 1]]), (pipeline.push_b, PIPE, [[3, 4], [4, 1]]), (pipeline.purge, PIPE, 1),
    (pipeline.arrival, PIPE, 0), (pipeline.separate, PIPE, MIXING), (pipeline.slop_of, PIPE, MIXING),
    (pipeline.best_sequence, PIPE, MIXING), (stability.totals, LOADS), (stability.displacement, CURVE, 3),
    (stability.draught_at, CURVE, 111), (stability.metacentric_height, HULL, LOADS, [3, 0]),
    (stability.heel, HULL, LOADS, [3, 0]), (stability.trim, HULL, LOADS, [3, 0]),
    (stability.violations, HULL, [[50, 99, 9, 10]], [3, 0]), (stability.least_ballast, HULL, LOADS),
    (stability.loading_order, HULL, LOADS, [3, 0]), (stowage.simulated, BOXES, [0, 0, 0]),
    (stowage.shift_count, BOXES, [0, 0, 0]), (stowage.stacks_after, BOXES, [0, 1, 0], 2),
    (stowage.lifted_at, BOXES, [0, 0, 0], 3), (stowage.crossings, BOXES), (stowage.shift_free_plan, BOXES, 3),
    (stowage.fewest_shifts, BOXES, 2, 9), (stowage.largest_clique, BOXES), (stowage.shortest_odd_cycle, BOXES),
    (stowage.turned_round, BOXES), (lashing.forces, STACK, 100), (lashing.violations, STACK, GEAR, [0, 2, 0], 100),
    (lashing.min_rods, STACK, GEAR, 100), (lashing.max_acceleration, STACK, GEAR, [0, 2, 0]),
    (lashing.max_top_weight, STACK, GEAR, [0, 2, 0], 5), (moments.moment, TALL), (moments.min_moment_order, TALL),
    (moments.distribute, TALL, 2), (segregation.apart, TABLE, 0, 1),
    (segregation.violations, TABLE, [[0, 0], [1, 1], [2, 2]]), (segregation.pack, TABLE, KINDS),
    (segregation.critical_chain, TABLE, KINDS, 3), (segregation.shortest_row, TABLE, KINDS),
    (segregation.triangle_violation, TABLE), (segregation.allowed_positions, TABLE, [[0, 4], [1, 9]], 2, 30),
    (segregation.min_holds, TABLE, KINDS, 1), (segregation.largest_conflict_set, TABLE, KINDS, 1),
    (cranes.first_violation, PATHS, 1), (cranes.uncross, PATHS), (cranes.ranks, PATHS),
    (cranes.route, [[0, 10], [3, 12]], 2), (cranes.sweep, [1, 0, 2], [1], 2),
    (yard.build, 3, 2, [[1, 20, 0], [2, 40, 1]]), (yard.allowed_slots, COLUMNS, 3, 20), (yard.below, COLUMNS, 3),
    (yard.above, COLUMNS, 1), (yard.lifts_to_free, COLUMNS, 1), (yard.twenties_to_level, COLUMNS, 3, 0),
    (yard.fill_with_forties, COLUMNS[:4], 2), (yard.twenties_to_prepare, COLUMNS, 2), (reefers.advance, REEFERS, [0]),
    (reefers.simulate, REEFERS, [[], [0, 1]]), (reefers.plug_share, REEFERS), (reefers.cycle_divisor, REEFERS),
    (reefers.is_sustainable, REEFERS, 1), (reefers.sustainable_choices, REEFERS, 1),
    (reefers.longest_plan, REEFERS, 0), (reefers.shortest_cycle, REEFERS, 1), (reefers.fewest_plugs, REEFERS),
    (reefers.longest_outage, REEFERS, 1), (gate.schedule, QUOTAS, TRUCKS), (gate.first_excess, [1, 0], [[0, 1], [0, 0]]),
    (gate.possible_slots, QUOTAS, TRUCKS, 0), (gate.largest_set, QUOTAS, TRUCKS),
    (gate.extra_capacity, QUOTAS, TRUCKS, [1, 2]), (gate.spare_quotas, QUOTAS, TRUCKS), (gate.occupancy, STAYS),
    (gate.lanes, STAYS), (messages.check_message, ARRIVAL), (messages.write_message, ARRIVAL),
    (customs.ledger, CUSTOMS, MESSAGES), (customs.balances_at, CUSTOMS, MESSAGES, 15),
    (customs.effect_of, CUSTOMS, MESSAGES, ["void", 1]), (customs.is_cleared, CUSTOMS, MESSAGES, "TEA"),
    (customs.bond_at, CUSTOMS, MESSAGES, RATES, 15), (customs.peak_bond, CUSTOMS, MESSAGES, RATES),
    (customs.routes, CUSTOMS, "entry", "bond"), (customs.shortest_route, CUSTOMS, "entry", "bond"),
    (formulas.write_formula, TREE), (formulas.duty, TREE, 30, 7), (formulas.leaves, TREE), (formulas.depth, TREE),
    (pieces.pieces, TREE), (pieces.is_equivalent, TREE, OTHER), (pieces.is_at_most, TREE, OTHER), (pieces.is_convex, TREE),
    (pieces.is_concave, TREE), (pieces.first_difference, TREE, OTHER), (pieces.separate, TREE, [[1, 2], [3, 0]]),
    (pieces.combined, TREE, [[1, 2], [3, 0]]), (pieces.cheapest, [TREE, OTHER], 9, 9),
    (bills.check_bill, BILL), (bills.first_mismatch, [7, {}, [BILL]]), (empties.is_balanced, SURPLUS, [2, 0, -1]),
    (empties.cost, LEGS, [2, 0, -1]), (empties.flows_with_first, SURPLUS, 2), (empties.optimal_flows, LEGS, SURPLUS),
    (empties.optimal_range, LEGS, SURPLUS), (empties.potentials, LEGS, SURPLUS), (empties.cost_slack, LEGS, SURPLUS, 1),
    (empties.to_moves, [2, 0, -1])]
# Calls of all functions that return dicts, also within.
DICT_CALLS = [
    (counts.total_of, [COUNTS, COUNTS]), (counts.difference, COUNTS, {}), (counts.compose, CHANGE, CHANGE),
    (counts.inverse, CHANGE), (counts.applied, COUNTS, CHANGE), (counts.merge, COUNTS, {"B": 3}, COUNTS),
    (misreads.match_misreads, COUNTS, {"C": 1, "D": 1}), (bills.roll_up, BILL), (bills.remove_bill, BILL, [1])]
# What stands for itself among the arguments.
OBJECTS = (HULL, GEAR, CUSTOMS)


def is_plain(value):
    """True for integers, strings, truth values and None, and for tuples of such."""
    if value.__class__ is tuple:
        return all(is_plain(item) for item in value)
    return value is None or value.__class__ in (int, str, bool)


class ValuesTest(Case):
    """[0.1], [0.3]: what is passed and what is returned."""

    def test_every_function_is_called_here(self):
        called = {call[0] for call in [*CALLS, *DICT_CALLS]} | {
            codes.remainder, codes.with_check_digit, codes.is_assignable, codes.parse, ranks.rank, ranks.nth,
            fractions.common_divisor, messages.read_message, formulas.read_formula, misreads.is_misread,
            counts.check_counts, counts.check_change}
        from test_interface import CALLS as LISTED
        for module in (codes, ranks, fractions, intervals, tides, berths, pipeline, stability, allocator, stowage, lashing,
                       moments, segregation, cranes, yard, reefers, gate, messages, customs, formulas, pieces, tariffs,
                       counts, misreads, bills, empties):
            for word in LISTED[module.__name__.partition(".")[2]]:
                value = vars(module).get(word)
                if inspect.isfunction(value):
                    self.assertIn(value, called)

    def test_lists_and_tuples_stand_for_one_another(self):
        for call, *args in CALLS:
            self.same(call(*listed(args)), call(*tupled(args)))

    def test_arguments_are_not_changed(self):
        for call, *args in CALLS:
            given = [arg if arg in OBJECTS else copy.deepcopy(arg) for arg in args]
            call(*given)
            self.assertEqual(given, args)

    def test_tuples_of_whole_numbers_are_returned(self):
        for call, *args in CALLS:
            self.assertTrue(is_plain(call(*listed(args))), call)

    def test_dicts_that_are_returned(self):
        for call, *args in DICT_CALLS:
            given = copy.deepcopy(args)
            found = call(*given)
            wanted = copy.deepcopy(found)
            self.assertEqual(given, args)
            for row in [found, *found] if isinstance(found, tuple) else [found]:
                if isinstance(row, dict):
                    self.assertEqual(list(row), sorted(row))
                    row["Z"] = 9
            # What was returned has been changed: nothing else is.
            self.assertEqual(given, args)
            self.same(call(*tupled(given)), wanted)

    def test_books_take_lists_and_tuples(self):
        for form in (listed, tupled):
            table = customs.Table(form(["entry", "bond"]), form(["entry"]), form([["entry", "bond"]]))
            log = customs.CustomsLog(table)
            found = [log.append(form(message)) for message in MESSAGES]
            self.assertTrue(is_plain((*found, log.messages(), log.ledger(), table.states, table.entries, len(log))))
        tariff = tariffs.Tariff()
        tariff.enter("A", 1, "8 percent")
        self.assertTrue(is_plain((tariff.headings(2), tariff.entries(), tariff.duty("A", 1, 3, 4))))

    def test_classes_take_lists_and_tuples(self):
        for form in (listed, tupled):
            channel = Channel(form(TIDE), form(SILLS), 5)
            channel.book(300, "out", 0)
            quay = Quay(12)
            for ship in SHIPS:
                quay.arrive(form(ship))
            manifold = Manifold(form(PIPE), form([[1, 2, 3], [2, 0, 5]]))
            hull = stability.Hull(form([100, 0, 0, 10]), form(CURVE), form([[20, 10, 0, 2, 30]]), height=1, heel=1, trim=1)
            for found in (channel.bookings(), quay.ships(), quay.starts(), quay.delay(0, 3), quay.critical_chain(3),
                          quay.free_bollards(3), manifold.pipe(), manifold.tanks(), manifold.open_tanks(),
                          (hull.lightship, hull.curve, hull.tanks)):
                self.assertTrue(is_plain(found))
            self.assertEqual(quay.ships()[1:], tupled(SHIPS)[1:])
            self.assertEqual(hull.curve, tupled(CURVE))

    def test_the_allocator_returns_tuples(self):
        office = allocator.Allocator(CODE)
        self.assertTrue(is_plain((office.issue(3), office.revoke(CODE), office.ranges(), office.undo())))

    def test_ships_take_lists_and_tuples(self):
        for form in (listed, tupled):
            vessel = Vessel(HULL)
            found = [vessel.load(form(load)) for load in LOADS] + [vessel.shift(0, form([1, 0, 9])), vessel.unload(0)]
            self.assertTrue(is_plain((*found, vessel.loads(), vessel.fills())))
            voyage = Voyage(2, 9)
            found = (voyage.load(form([[0, 1], [1, 3], [0, 2]])), voyage.sail(), voyage.stacks(), voyage.lift_counts())
            self.assertTrue(is_plain(found))
            deck = Deck(GEAR, 5, 2, 9)
            deck.add(0, 4)
            self.assertTrue(is_plain(deck.stacks()))

    def test_yards_take_lists_and_tuples(self):
        for form in (listed, tupled):
            hold = Hold(form(TABLE), 12)
            found = [hold.add(1), hold.add(2), hold.move(2, 9), hold.compact(), hold.remove(1), hold.boxes()]
            self.assertTrue(is_plain(tuple(found)))
            self.same(hold.row(), [(2, 7)])
            rail = CraneRail(3, form([0, 9]))
            rail.send(0, 2)
            self.assertTrue(is_plain((rail.step(), rail.positions(), rail.waiting(), rail.history())))
            block = YardBlock(3, 3)
            found = [block.place(1, 20, 0), block.place(2, 20, 0), block.dig(1), block.undo(), block.lift(2), block.columns()]
            self.assertTrue(is_plain(tuple(found)))
            rack = Rack(form(REEFERS), 1)
            rack.plug(0)
            rack.unplug(0)
            self.assertTrue(is_plain((rack.advance(), rack.boxes(), rack.plugged())))
            office = Gate(form(QUOTAS))
            found = [office.book(0, 2), office.book(0, 1), office.advance(), office.calls(), office.waiting(),
                     office.window(0), office.quotas()]
            self.assertTrue(is_plain(tuple(found)))
