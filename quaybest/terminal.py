"""The terminal, in which all parts work together."""

from quaybest.ashore import MOST_PLUGGED, Ashore
from quaybest.berths import shares, starts
from quaybest.customs import CustomsLog
from quaybest.formulas import duty
from quaybest.fractions import added, fraction, is_less
from quaybest.gate import Gate
from quaybest.rail import CraneRail
from quaybest.refusals import refuse_if
from quaybest.tides import starts_for
from quaybest.visits import KnownBox, Visit

MOST_BOXES = 60
MOST_SHIPS = 6
LAST_MINUTE_OF_HOUR = 59


class Terminal:
    """Keeps ships, boxes, cranes, trucks, messages and duties; every call that returns is in its journal."""

    def __init__(self, setup):
        self._setup = setup
        self._hour = 0
        self._minute = 0
        self._visits = []
        # The known boxes by their codes, in the order of their numbers.
        self._boxes = {}
        self._ashore = Ashore(setup.slots, setup.height, setup.plugs)
        self._rail = CraneRail(setup.gap, setup.cranes)
        self._gate = Gate(setup.quotas)
        self._log = CustomsLog(setup.table)
        self._bond = setup.bond
        # The trucks that were called when the last hour ended, and those of them that were not served.
        self._called = ()
        self._here = ()
        self._removed = []
        self._crane_log = []
        self._journal = []

    def add_ship(self, arrival):
        """Let a ship arrive; return its number."""
        number = len(self._visits)
        self._check_fresh(arrival.boxes)
        refuse_if(number >= MOST_SHIPS, "ships")
        refuse_if(arrival.position + arrival.length > self._setup.bollards, "quay")
        boxes = [KnownBox(len(self._boxes) + place, container, ("ship", number, arrival.plan[place]))
                 for place, container in enumerate(arrival.boxes)]
        visit = Visit(arrival, boxes, self.now())
        refuse_if(max([len(stack) for stack in visit.stacks]) > arrival.height, "high")
        refuse_if(not visit.is_segregated(self._setup.goods, ()), "close")
        refuse_if(not visit.is_stable(visit.stacks, visit.fills), "unstable")
        for box in boxes:
            self._boxes[box.container.code] = box
        self._visits.append(visit)
        return self._noted(("add_ship", arrival), number)

    def berth(self, ship):
        """Let a ship berth; return now."""
        visit = self._visit(ship)
        refuse_if(visit.has_berthed, "berthed")
        ahead = [other.quay_row() for other in self._visits[:ship] if not other.has_sailed]
        refuse_if(any([shares(visit.quay_row(), other) for other in ahead]), "earlier")
        visit.has_berthed = True
        visit.minute = self.now()
        return self._noted(("berth", ship), self.now())

    def move_crane(self, crane, position):
        """Send a crane to a position; return how far it is from there."""
        return self._noted(("move_crane", crane, position), self._rail.send(crane, position))

    def tick(self):
        """Let a minute pass on the rail; return the cranes that moved."""
        refuse_if(self._minute == LAST_MINUTE_OF_HOUR, "hour")
        moved = self._rail.step()
        self._minute += 1
        return self._noted(("tick",), moved)

    def lift(self, ship, stack):
        """Lift the top box of a stack; return its code and what was done with it."""
        visit = self._berthed(ship, stack)
        boxes = visit.stacks[stack]
        refuse_if(not boxes, "empty")
        refuse_if(visit.rods[stack] is not None, "lashed")
        refuse_if(not visit.has_own(stack), "no box")
        self._check_work(visit, stack, boxes[:-1])
        box = boxes[-1]
        if box.container.ports[1] != visit.arrival.port:
            visit.aside[stack].append(box)
            self._work(ship, stack, boxes[:-1], box, "set aside", ("aside", ship, stack))
            return self._noted(("lift", ship, stack), (box.container.code, "set aside"))
        owed = added(self.duty_owed(), self._duty(box))
        refuse_if(is_less(fraction(self._bond), owed), "bond")
        box.is_discharged = True
        self._work(ship, stack, boxes[:-1], box, "discharge", ("apron",))
        return self._noted(("lift", ship, stack), (box.container.code, "discharge"))

    def restow(self, ship, stack):
        """Put the box that was set aside last back on its stack; return its code."""
        visit = self._berthed(ship, stack)
        refuse_if(not visit.aside[stack], "nothing aside")
        refuse_if(visit.has_own(stack), "own box")
        box = visit.aside[stack][-1]
        boxes = [*visit.stacks[stack], box]
        self._check_work(visit, stack, boxes)
        visit.aside[stack].pop()
        self._work(ship, stack, boxes, box, "restow", ("ship", ship, stack))
        return self._noted(("restow", ship, stack), box.container.code)

    def stow(self, ship, stack, code):
        """Take a box and put it on a stack; return how many are in the stack."""
        visit = self._berthed(ship, stack)
        box = self._available(code)
        refuse_if(box.container.ports[0] != visit.arrival.port, "other ship")
        refuse_if(not visit.is_ready(stack), "not ready")
        refuse_if(visit.rods[stack] is not None, "lashed")
        boxes = [*visit.stacks[stack], box]
        refuse_if(len(boxes) > visit.arrival.height, "full")
        self._check_crane(visit, stack)
        goods = [] if box.container.goods is None else [(box.container.goods, stack)]
        refuse_if(not visit.is_segregated(self._setup.goods, goods), "close")
        refuse_if(not visit.is_stable_with(stack, boxes), "unstable")
        self._ashore.take(box)
        self._work(ship, stack, boxes, box, "load", ("ship", ship, stack))
        return self._noted(("stow", ship, stack, code), len(boxes))

    def fill(self, ship, tank, amount):
        """Let a tank hold an amount; return it."""
        visit = self._visit(ship)
        tanks = visit.arrival.hull.tanks
        refuse_if(tank < 0 or tank >= len(tanks), "tank")
        refuse_if(amount < 0 or amount > tanks[tank][0], "amount")
        refuse_if(not visit.is_berthed(), "not berthed")
        fills = [*visit.fills[:tank], amount, *visit.fills[tank + 1:]]
        refuse_if(not visit.is_stable(visit.stacks, fills), "unstable")
        visit.fills = fills
        return self._noted(("fill", ship, tank, amount), amount)

    def lash(self, ship, stack, rods):
        """Lash a stack with rods, or, with None, take its rods off."""
        visit = self._berthed(ship, stack)
        refuse_if(not visit.stacks[stack], "empty")
        refuse_if(not visit.is_ready(stack), "not ready")
        kept = None if rods is None else tuple(rods)
        refuse_if(kept is not None and not visit.holds_with(stack, kept), "weak")
        visit.rods[stack] = kept
        return self._noted(("lash", ship, stack, kept), None)

    def sail(self, ship):
        """Let a ship sail; return now."""
        visit = self._visit(ship)
        refuse_if(not visit.is_berthed(), "not berthed")
        refuse_if(visit.minute == self.now(), "this minute")
        stacks = list(range(len(visit.stacks)))
        refuse_if(not all([visit.is_ready(stack) for stack in stacks]), "not ready")
        refuse_if(any([visit.stacks[stack] and visit.rods[stack] is None for stack in stacks]), "not lashed")
        rows = starts_for(self._setup.tide, self._setup.sills, visit.draught())
        refuse_if(not any([start <= self.now() <= stop for start, stop in rows]), "water")
        visit.has_sailed = True
        return self._noted(("sail", ship), self.now())

    def to_yard(self, code, slot):
        """Take a box and place it in the yard; return its tier."""
        box = self._available(code)
        refuse_if(not self._ashore.can_place(box, slot), "place")
        return self._noted(("to_yard", code, slot), self._ashore.place(box, slot))

    def to_reefers(self, code):
        """Take a box and put it on the plugs; return how many are there."""
        box = self._available(code)
        refuse_if(box.container.reefer is None, "not refrigerated")
        refuse_if(box.where == ("reefers",), "there")
        refuse_if(len(self._ashore.on_plugs) >= MOST_PLUGGED, "full")
        return self._noted(("to_reefers", code), self._ashore.plug(box))

    def plan_reefers(self):
        """Plan the shortest cycle of the boxes on the plugs; return it."""
        refuse_if(not self._ashore.on_plugs, "empty")
        plan = self._ashore.make_plan()
        refuse_if(plan is None, "no cycle")
        return self._noted(("plan_reefers",), plan)

    def next_hour(self):
        """Let the hour end; return the trucks that are called."""
        refuse_if(self._ashore.on_plugs and self._ashore.plan is None, "no plan")
        self._called = self._gate.advance()
        self._here = self._called
        self._ashore.pass_hour()
        self._hour += 1
        self._minute = 0
        return self._noted(("next_hour",), self._called)

    def book(self, start, stop):
        """Book a truck; return its number."""
        return self._noted(("book", start, stop), self._gate.book(start, stop))

    def cancel(self, truck):
        """Cancel a waiting truck; return how many are waiting then."""
        return self._noted(("cancel", truck), self._gate.cancel(truck))

    def receive(self, truck, box):
        """Take a box from a truck; return its number."""
        refuse_if(truck not in self._here, "not here")
        self._check_fresh([box])
        number = len(self._boxes)
        self._boxes[box.code] = KnownBox(number, box, ("apron",))
        self._serve(truck)
        return self._noted(("receive", truck, box), number)

    def release(self, truck, code):
        """Give a box to a truck; return how many were removed."""
        refuse_if(truck not in self._here, "not here")
        box = self._available(code)
        refuse_if(self._owes(box), "unpaid")
        refuse_if(not self._is_free(box), "not free")
        self._ashore.take(box)
        box.where = ("removed", truck)
        self._removed.append(code)
        self._serve(truck)
        return self._noted(("release", truck, code), len(self._removed))

    def declare(self, message):
        """Append a customs message; return the changes that it makes."""
        changes = self._log.append(message)
        return self._noted(("declare", self._log.messages()[-1]), changes)

    def pay(self, code):
        """Pay the duty of a box; return it."""
        box = self._box(code)
        refuse_if(not box.is_discharged, "not owed")
        refuse_if(box.is_paid, "paid")
        box.is_paid = True
        return self._noted(("pay", code), self._duty(box))

    def raise_bond(self, by):
        """Make the bond greater; return it."""
        refuse_if(by < 1, "bond")
        self._bond += by
        return self._noted(("raise_bond", by), self._bond)

    def now(self):
        """The minute, and 60 times the hour."""
        return 60 * self._hour + self._minute

    def locate(self, code):
        """Where a box is."""
        return self._box(code).where

    def stacks(self, ship):
        """The stacks of a ship, as codes from the bottom."""
        return tuple([tuple([box.container.code for box in stack]) for stack in self._visit(ship).stacks])

    def tally(self, ship):
        """By code how often boxes were put on board of a ship, less how often they were taken off, without 0."""
        counts = self._visit(ship).tally
        return {code: counts[code] for code in sorted(counts) if counts[code] != 0}

    def berthing_times(self):
        """Pairs of a ship that has not sailed and its earliest start."""
        left = [(number, visit) for number, visit in enumerate(self._visits) if not visit.has_sailed]
        begins = starts([visit.quay_row() for _, visit in left])
        return tuple([(number, start) for (number, _), start in zip(left, begins)])

    def temperatures(self):
        """Pairs of the code and the temperature of the boxes on the plugs."""
        return tuple([(box.container.code, box.container.reefer[4]) for box in self._ashore.on_plugs])

    def trucks(self):
        """The trucks that were called when the last hour ended."""
        return self._called

    def irregular(self):
        """The codes of the removed boxes that are not free now, in the order in which they left."""
        return tuple([code for code in self._removed if not self._is_free(self._boxes[code])])

    def duty_owed(self):
        """The duty that is owed."""
        total = fraction(0)
        for box in self._boxes.values():
            if self._owes(box):
                total = added(total, self._duty(box))
        return total

    def bond(self):
        """The bond."""
        return self._bond

    def crane_log(self):
        """What the cranes did, as (ship, stack, code, word, position, row)."""
        return tuple(self._crane_log)

    def crane_rows(self):
        """The rows of the rail."""
        return self._rail.history()

    def journal(self):
        """The calls that returned."""
        return tuple(self._journal)

    def _noted(self, entry, answer):
        """The answer of a call, which is done and goes into the journal."""
        self._journal.append(entry)
        return answer

    def _visit(self, ship):
        refuse_if(ship < 0 or ship >= len(self._visits), "ship")
        return self._visits[ship]

    def _berthed(self, ship, stack):
        visit = self._visit(ship)
        refuse_if(stack < 0 or stack >= len(visit.stacks), "stack")
        refuse_if(not visit.is_berthed(), "not berthed")
        return visit

    def _box(self, code):
        refuse_if(code not in self._boxes, "unknown")
        return self._boxes[code]

    def _available(self, code):
        box = self._box(code)
        refuse_if(not self._ashore.is_available(box), "not available")
        return box

    def _check_fresh(self, containers):
        """Refuse boxes that cannot become known."""
        codes = [container.code for container in containers]
        refuse_if(any([code in self._boxes or codes.count(code) > 1 for code in codes]), "known")
        for container in containers:
            kinds = len(self._setup.goods[0])
            refuse_if(container.goods is not None and not 0 <= container.goods < kinds, "goods")
            refuse_if(not 0 <= container.formula < len(self._setup.formulas), "formula")
        refuse_if(len(self._boxes) + len(codes) > MOST_BOXES, "boxes")

    def _check_crane(self, visit, stack):
        refuse_if(visit.crane_position(stack) not in self._rail.positions(), "crane")

    def _check_work(self, visit, stack, boxes):
        """Refuse other boxes in a stack without a crane beside it, or with which the ship is not stable."""
        self._check_crane(visit, stack)
        refuse_if(not visit.is_stable_with(stack, boxes), "unstable")

    def _work(self, ship, stack, boxes, box, word, place):
        """Let a crane move a box to a place, behind which these boxes are in the stack."""
        visit = self._visits[ship]
        visit.stacks[stack] = boxes
        visit.add_to_tally(box, -1 if word in ("discharge", "set aside") else 1)
        box.where = place
        row = len(self._rail.history()) - 1
        self._crane_log.append((ship, stack, box.container.code, word, visit.crane_position(stack), row))

    def _serve(self, truck):
        self._here = tuple([other for other in self._here if other != truck])

    def _duty(self, box):
        container = box.container
        return duty(self._setup.formulas[container.formula], container.value, 100 * container.weight)

    def _owes(self, box):
        return box.is_discharged and not box.is_paid and box.where[0] in ("apron", "yard", "reefers")

    def _is_free(self, box):
        """True if just the kilos of a box are in the state free."""
        return (box.container.code, self._setup.free, 100 * box.container.weight) in self._log.ledger()[0]
