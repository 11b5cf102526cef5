"""The names, arguments and errors of the interface, and where they stand."""

import importlib
import inspect

from quaybest.errors import QuayError
from support import Case

# For each module: its functions and classes with their parameters, and its methods.
CALLS = {
    "codes": {
        "remainder": "body", "with_check_digit": "body", "is_assignable": "code", "parse": "text",
        "substitutions": "code", "transpositions": "code", "undetected_pairs": "position"},
    "ranks": {
        "rank": "code", "nth": "prefix, number", "matches": "pattern, *, most=50", "to_ranges": "codes",
        "expand_ranges": "ranges"},
    "allocator": {
        "Allocator": "code", "Allocator.issue": "count", "Allocator.revoke": "code", "Allocator.undo": "",
        "Allocator.status": "code", "Allocator.ranges": ""},
    "fractions": {
        "fraction": "number, divisor=1", "added": "first, second", "subtracted": "first, second",
        "multiplied": "first, second", "divided": "first, second", "is_less": "first, second",
        "common_divisor": "first, second"},
    "intervals": {
        "intersection": "first, second", "union": "first, second", "difference": "first, second",
        "eroded": "rows, length", "dilated": "rows, length"},
    "tides": {
        "level": "tide, minute", "minutes_at_least": "tide, least", "passable_starts": "tide, sills, draught",
        "deepest_draught": "tide, sills, start", "deepest_draught_in": "tide, sills, start, stop"},
    "channel": {
        "Channel": "tide, sills, headway", "Channel.book": "draught, direction, start", "Channel.cancel": "number",
        "Channel.bookings": ""},
    "berths": {
        "starts": "ships", "critical_chain": "ships, number", "slack": "ships, number",
        "delay_effect": "ships, number, by", "stay_effect": "ships, number, by",
        "free_bollards": "bollards, ships, minute", "conflicts": "ships, plan", "waiting": "ships, plan",
        "compacted": "ships, plan", "best_order": "ships"},
    "quays": {
        "Quay": "bollards", "Quay.arrive": "ship", "Quay.delay": "number, by", "Quay.prolong": "number, by",
        "Quay.ships": "", "Quay.starts": "", "Quay.critical_chain": "number", "Quay.free_bollards": "minute",
        "Quay.undo": ""},
    "pipeline": {
        "normalize": "sequence", "push_a": "pipe, load", "push_b": "pipe, load", "purge": "pipe, product",
        "arrival": "pipe, batch", "separate": "sequence, mixing", "slop_of": "sequence, mixing",
        "best_sequence": "batches, mixing"},
    "manifolds": {
        "Manifold": "pipe, tanks", "Manifold.pipe": "", "Manifold.tanks": "", "Manifold.open_tanks": "",
        "Manifold.open_at": "end, tank", "Manifold.pump": "tank, end, amount", "Manifold.drain": "tank",
        "Manifold.undo": ""},
    "stability": {
        "Hull": "lightship, curve, tanks, *, height, heel, trim", "totals": "loads",
        "displacement": "curve, draught", "draught_at": "curve, weight", "metacentric_height": "hull, loads, fills",
        "heel": "hull, loads, fills", "trim": "hull, loads, fills", "violations": "hull, loads, fills",
        "least_ballast": "hull, loads", "loading_order": "hull, loads, fills"},
    "vessels": {
        "Vessel": "hull", "Vessel.load": "load", "Vessel.unload": "number", "Vessel.shift": "number, place",
        "Vessel.fill": "tank, amount", "Vessel.undo": "", "Vessel.loads": "", "Vessel.fills": "", "Vessel.weight": "",
        "Vessel.draught": ""},
    "stowage": {
        "simulated": "boxes, plan", "shift_count": "boxes, plan", "stacks_after": "boxes, plan, port",
        "lifted_at": "boxes, plan, port", "crossings": "boxes", "shift_free_plan": "boxes, stacks",
        "fewest_shifts": "boxes, stacks, height", "largest_clique": "boxes", "shortest_odd_cycle": "boxes",
        "turned_round": "boxes"},
    "voyages": {
        "Voyage": "stacks, height", "Voyage.load": "loads", "Voyage.sail": "", "Voyage.stacks": "",
        "Voyage.lift_counts": ""},
    "lashing": {
        "Gear": "*, joint, rod, reach, rods, weight, post", "forces": "stack, acceleration",
        "violations": "stack, gear, rods, acceleration", "min_rods": "stack, gear, acceleration",
        "max_acceleration": "stack, gear, rods", "max_top_weight": "stack, gear, rods, acceleration"},
    "moments": {"moment": "boxes", "min_moment_order": "boxes", "distribute": "boxes, stacks"},
    "deck": {
        "Deck": "gear, acceleration, stacks, rods", "Deck.add": "stack, weight", "Deck.drop": "stack",
        "Deck.lash": "stack, tier, count", "Deck.unlash": "stack, tier, count", "Deck.relash": "stack",
        "Deck.set_acceleration": "acceleration", "Deck.max_acceleration": "", "Deck.stacks": ""},
    "segregation": {
        "apart": "table, first, second", "violations": "table, row", "pack": "table, classes",
        "critical_chain": "table, classes, box", "shortest_row": "table, classes", "triangle_violation": "table",
        "allowed_positions": "table, row, kind, length", "min_holds": "table, classes, degree",
        "largest_conflict_set": "table, classes, degree"},
    "holds": {
        "Hold": "table, length", "Hold.add": "kind", "Hold.remove": "number", "Hold.move": "number, position",
        "Hold.compact": "", "Hold.boxes": "", "Hold.row": ""},
    "cranes": {
        "first_violation": "paths, gap", "uncross": "paths", "ranks": "paths", "route": "formations, gap",
        "sweep": "loads, cuts, gap"},
    "rail": {
        "CraneRail": "gap, positions", "CraneRail.send": "crane, position", "CraneRail.step": "",
        "CraneRail.positions": "", "CraneRail.waiting": "", "CraneRail.history": ""},
    "yard": {
        "build": "slots, height, placements", "allowed_slots": "columns, height, feet", "below": "columns, box",
        "above": "columns, box", "lifts_to_free": "columns, box", "twenties_to_level": "columns, height, slot",
        "fill_with_forties": "columns, tiers", "twenties_to_prepare": "columns, tiers"},
    "blocks": {
        "YardBlock": "slots, height", "YardBlock.place": "box, feet, slot", "YardBlock.lift": "box",
        "YardBlock.dig": "box", "YardBlock.undo": "", "YardBlock.columns": ""},
    "reefers": {
        "advance": "boxes, choice", "simulate": "boxes, plan", "plug_share": "boxes", "cycle_divisor": "boxes",
        "is_sustainable": "boxes, plugs", "sustainable_choices": "boxes, plugs", "longest_plan": "boxes, plugs",
        "shortest_cycle": "boxes, plugs", "fewest_plugs": "boxes", "longest_outage": "boxes, plugs",
        "Rack": "boxes, plugs", "Rack.plugged": "", "Rack.boxes": "", "Rack.plug": "number", "Rack.unplug": "number",
        "Rack.advance": "", "Rack.hours_left": ""},
    "gate": {
        "schedule": "quotas, trucks", "first_excess": "quotas, trucks", "possible_slots": "quotas, trucks, truck",
        "largest_set": "quotas, trucks", "extra_capacity": "quotas, trucks, window", "spare_quotas": "quotas, trucks",
        "occupancy": "stays", "lanes": "stays", "Gate": "quotas", "Gate.book": "start, stop", "Gate.cancel": "truck",
        "Gate.reduce": "slot, by", "Gate.advance": "", "Gate.calls": "", "Gate.waiting": "", "Gate.window": "truck",
        "Gate.quotas": ""},
    "messages": {"check_message": "message", "write_message": "message", "read_message": "text"},
    "customs": {
        "Table": "states, entries, transitions", "Table.allows": "start, stop", "Table.following": "state",
        "ledger": "table, messages", "balances_at": "table, messages, time", "effect_of": "table, messages, message",
        "is_cleared": "table, messages, item", "bond_at": "table, messages, rates, time",
        "peak_bond": "table, messages, rates", "routes": "table, start, stop", "shortest_route": "table, start, stop",
        "CustomsLog": "table", "CustomsLog.append": "message", "CustomsLog.undo": "", "CustomsLog.messages": "",
        "CustomsLog.ledger": "", "CustomsLog.__len__": ""},
    "formulas": {
        "read_formula": "text", "write_formula": "tree", "duty": "tree, value, weight", "leaves": "tree", "depth": "tree"},
    "pieces": {
        "pieces": "tree", "is_equivalent": "first, second", "is_at_most": "first, second", "is_convex": "tree",
        "is_concave": "tree", "first_difference": "first, second", "separate": "tree, parcels",
        "combined": "tree, parcels", "cheapest": "trees, value, weight"},
    "tariffs": {
        "Tariff": "", "Tariff.enter": "heading, day, text", "Tariff.remove": "heading, day",
        "Tariff.formula_on": "heading, day", "Tariff.duty": "heading, day, value, weight", "Tariff.headings": "day",
        "Tariff.entries": "", "Tariff.__len__": ""},
    "counts": {
        "total_of": "lists", "difference": "start, stop", "compose": "first, second", "inverse": "change",
        "applied": "counts, change", "merge": "base, mine, theirs", "check_counts": "counts", "check_change": "change"},
    "misreads": {"is_misread": "first, second", "match_misreads": "manifest, tally"},
    "bills": {
        "check_bill": "bill", "roll_up": "bill", "first_mismatch": "bill", "remove_bill": "bill, path", "Tally": "",
        "Tally.add": "name, counts", "Tally.remove": "name", "Tally.total": "", "Tally.compare": "bill",
        "Tally.__len__": ""},
    "empties": {
        "is_balanced": "surplus, flows", "cost": "legs, flows", "flows_with_first": "surplus, first",
        "optimal_flows": "legs, surplus", "optimal_range": "legs, surplus", "potentials": "legs, surplus",
        "cost_slack": "legs, surplus, leg", "to_moves": "flows"},
    "ring": {
        "RingService": "legs, stock", "RingService.request": "start, stop, count",
        "RingService.ship": "start, direction, count", "RingService.settle": "", "RingService.undo": "",
        "RingService.stock": "", "RingService.planned": "", "RingService.paid": "", "RingService.changes": ""},
    "arrivals": {
        "Container": "code, feet, weight, ports, *, goods=None, reefer=None, formula=0, value=0", "Container.copied": "",
        "Arrival": "*, position, length, stay, port, hull, places, tier, height, gear, acceleration, boxes, plan",
        "Setup": "*, tide, sills, bollards, gap, cranes, slots, height, plugs, quotas, table, free, formulas, bond, goods"},
    "terminal": {
        "Terminal": "setup", "Terminal.add_ship": "arrival", "Terminal.berth": "ship",
        "Terminal.move_crane": "crane, position", "Terminal.tick": "", "Terminal.lift": "ship, stack",
        "Terminal.restow": "ship, stack", "Terminal.stow": "ship, stack, code", "Terminal.fill": "ship, tank, amount",
        "Terminal.lash": "ship, stack, rods", "Terminal.sail": "ship", "Terminal.to_yard": "code, slot",
        "Terminal.to_reefers": "code", "Terminal.plan_reefers": "", "Terminal.next_hour": "",
        "Terminal.book": "start, stop", "Terminal.cancel": "truck", "Terminal.receive": "truck, box",
        "Terminal.release": "truck, code", "Terminal.declare": "message", "Terminal.pay": "code",
        "Terminal.raise_bond": "by", "Terminal.now": "", "Terminal.locate": "code", "Terminal.stacks": "ship",
        "Terminal.tally": "ship", "Terminal.berthing_times": "", "Terminal.temperatures": "", "Terminal.trucks": "",
        "Terminal.irregular": "", "Terminal.duty_owed": "", "Terminal.bond": "", "Terminal.crane_log": "",
        "Terminal.crane_rows": "", "Terminal.journal": ""},
    "journals": {"perform": "terminal, entry", "rebuilt": "setup, entries"}}
# For each module: its errors, with their attributes.
ERRORS = {
    "codes": {"BadCode": "reason, position", "BadText": "position", "WrongDigit": "digit"},
    "ranks": {"NoCode": "", "BadRange": "number, reason"},
    "allocator": {"AllocatorError": ""},
    "intervals": {"BadIntervals": "number", "TooLate": ""},
    "tides": {"BadTide": "number", "BadSills": "number"},
    "channel": {"NoBooking": "", "BookingCancelled": "", "TooManyBookings": ""},
    "berths": {"TooEarly": "ship", "Overlapping": "ships"},
    "quays": {"BadShip": "reason", "NoShip": "", "QuayFull": "", "NothingToUndo": ""},
    "manifolds": {"BadTanks": "tank", "NoTank": "", "TooLittle": "", "NoneOpen": "", "TwoProducts": "",
                  "Overflow": "", "NothingToUndo": ""},
    "vessels": {"NotStable": "words", "NoLoad": "", "NoTank": "", "BadFill": "", "TooManyLoads": "", "NoChange": ""},
    "voyages": {"VoyageOver": "", "TooManyBoxes": "", "BadStack": "box", "StackFull": "stack"},
    "lashing": {"BadGear": "name", "BadStack": "number", "BadRods": "number"},
    "moments": {"BadBoxes": "number"},
    "deck": {"NoStack": "", "NoBox": "", "StackFull": "", "StackEmpty": "", "NoReach": "", "TooManyRods": "",
             "TooFewRods": "", "WouldNotHold": "stack"},
    "holds": {"HoldFull": "", "NoPosition": "", "NoBox": "", "TooClose": "box"},
    "cranes": {"BadPaths": "minute", "NotStepwise": "minute", "TooClose": "number", "BadSweep": "reason"},
    "rail": {"NoCrane": "", "NoPosition": "", "HistoryFull": ""},
    "yard": {"NoSuchBox": ""},
    "blocks": {"BoxThere": "", "NoRoom": "", "Covered": "", "NoChange": ""},
    "reefers": {"TooManyStates": "", "NoBox": "", "NotSo": "", "NoPlug": "", "LeavesRange": "box"},
    "gate": {"NoSlot": "", "Past": "", "NoTruck": "", "TooMany": "", "Full": "start, stop"},
    "messages": {"BadMessage": "reason", "BadLine": "position"},
    "customs": {"BadTable": "number, reason", "UnknownState": "state", "BadRates": "", "LogError": ""},
    "formulas": {"BadFormula": "position", "TooLong": ""},
    "tariffs": {"TariffError": ""},
    "counts": {"BadCounts": "code", "Negative": "code"},
    "misreads": {"TooManyCodes": ""},
    "bills": {"BadBill": "path, reason", "NoBill": "", "NegativeTotal": "", "BadSheet": "", "TooManySheets": ""},
    "empties": {"BadLegs": "number", "BadSurplus": "port", "BadFlows": "", "AllUsed": ""},
    "ring": {"BadStock": "port", "NoPort": "", "SamePort": "", "TooFewEmpties": "", "TooManyChanges": "",
             "NothingToUndo": ""},
    "arrivals": {"BadArrival": "reason"},
    "refusals": {"Refused": "reason"}}
# For each module: its error under which others of it stand, and these.
UNDER = {"allocator": ("AllocatorError", "BadCount LimitReached NotEnough NotIssued NothingToUndo"),
         "customs": ("LogError", "TooManyMessages NothingToUndo"),
         "tariffs": ("TariffError", "BadHeading BadDay TooManyEntries NoEntry NotInForce")}


def module_of(name):
    return importlib.import_module("quaybest." + name)


def parameters(call):
    return str(inspect.signature(call))[1:-1]


class InterfaceTest(Case):
    """Every name stands in its file, with its arguments."""

    def test_functions_and_methods(self):
        for name, calls in CALLS.items():
            module = module_of(name)
            for word, wanted in calls.items():
                owner, _, method = word.partition(".")
                found = vars(module)[owner]
                self.assertEqual(found.__module__, "quaybest." + name)
                if method:
                    self.assertEqual(parameters(vars(found)[method]).partition("self")[2].lstrip(", "), wanted, word)
                else:
                    self.assertEqual(parameters(found), wanted, word)

    def test_errors(self):
        for name, errors in ERRORS.items():
            for word, attributes in errors.items():
                error = vars(module_of(name))[word]
                self.assertEqual(error.__module__, "quaybest." + name)
                self.assertEqual(error.__bases__, (QuayError,))
                if attributes:
                    self.assertEqual(parameters(error), attributes, word)
                else:
                    self.assertNotIn("__init__", vars(error))

    def test_errors_under_others(self):
        for name, (base, words) in UNDER.items():
            module = module_of(name)
            for word in words.split():
                self.assertEqual(vars(module)[word].__bases__, (vars(module)[base],))
                self.assertEqual(vars(module)[word].__module__, "quaybest." + name)

    def test_base_of_all_errors(self):
        self.assertEqual(QuayError.__bases__, (ValueError,))
        self.assertEqual(QuayError.__module__, "quaybest.errors")
