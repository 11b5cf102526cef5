"""Ships at a terminal, and the boxes that are known there."""

from quaybest.lashing import check_rods, check_stack, holds
from quaybest.segregation import is_segregated
from quaybest.stability import loaded_totals, violations
from quaybest.stowage import stacks_after
from quaybest.vessels import least_draught


class KnownBox:
    """A box that is known at a terminal: its number, where it is, and what became of it."""

    def __init__(self, number, container, where):
        self.number = number
        # A container of its own, whose temperature can change.
        self.container = container.copied()
        # As the terminal tells it.
        self.where = where
        self.is_discharged = False
        self.is_paid = False


def first_stacks(arrival, boxes):
    """The stacks of a ship when it arrives, from its boxes on board."""
    rows = stacks_after([box.ports for box in arrival.boxes], arrival.plan, arrival.port - 1)
    found = [[boxes[number] for number in row] for row in rows]
    # The plan may leave the last stacks out.
    return found + [[] for _ in range(len(arrival.places) - len(found))]


class Visit:
    """A ship at a terminal: its stacks with what was set aside from them, its tanks, and what was done with it."""

    def __init__(self, arrival, boxes, minute):
        self.arrival = arrival
        self.stacks = first_stacks(arrival, boxes)
        self.aside = [[] for _ in arrival.places]
        # The rods of each stack that is lashed, None for each other one.
        self.rods = [None] * len(arrival.places)
        self.fills = [0] * len(arrival.hull.tanks)
        self.has_berthed = False
        self.has_sailed = False
        # When it berthed, or else when it arrived.
        self.minute = minute
        # By code how often the box was put on board, less how often it was taken off.
        self.tally = {}

    def quay_row(self):
        """The ship as one of part C."""
        return self.arrival.position, self.arrival.length, self.minute, self.arrival.stay

    def is_berthed(self):
        """True if the ship lies at its berth."""
        return self.has_berthed and not self.has_sailed

    def has_own(self, stack):
        """True if a box stands in a stack whose journey ends here."""
        return any([box.container.ports[1] == self.arrival.port for box in self.stacks[stack]])

    def is_ready(self, stack):
        """True if a stack has no box for here, and nothing is set aside from it."""
        return not self.has_own(stack) and not self.aside[stack]

    def crane_position(self, stack):
        """The position of the rail at which a crane serves a stack."""
        return self.arrival.position + self.arrival.places[stack][0]

    def loads(self, stacks):
        """The loads of stacks."""
        return [(box.container.weight, x, y, z + tier * self.arrival.tier)
                for (_, x, y, z), stack in zip(self.arrival.places, stacks) for tier, box in enumerate(stack)]

    def is_stable(self, stacks, fills):
        """True if the ship is stable with stacks and fills."""
        return not violations(self.arrival.hull, self.loads(stacks), fills)

    def is_stable_with(self, stack, boxes):
        """True if the ship is stable with other boxes in a stack."""
        return self.is_stable([*self.stacks[:stack], boxes, *self.stacks[stack + 1:]], self.fills)

    def is_segregated(self, table, more):
        """True if the goods are segregated, with more of them as pairs (class, stack)."""
        row = [(box.container.goods, stack) for stack in range(len(self.stacks))
               for box in [*self.stacks[stack], *self.aside[stack]] if box.container.goods is not None]
        return is_segregated(table, [*row, *more])

    def holds_with(self, stack, rods):
        """True if a stack holds with rods; the errors of lashing for what is none."""
        weights = [box.container.weight for box in self.stacks[stack]]
        check_stack(weights)
        check_rods(weights, self.arrival.gear, rods)
        return holds(weights, self.arrival.gear, rods, self.arrival.acceleration)

    def draught(self):
        """The least whole draught at which the displacement is at least the weight."""
        weight = loaded_totals(self.arrival.hull, self.loads(self.stacks), self.fills)[0]
        return least_draught(self.arrival.hull.curve, weight)

    def add_to_tally(self, box, by):
        """Count a box that was put on board (1) or taken off (-1)."""
        code = box.container.code
        self.tally[code] = self.tally.get(code, 0) + by
