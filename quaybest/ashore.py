"""Boxes ashore: those in the yard and on the plugs."""

from quaybest.reefers import after_hour, shortest_cycle, with_temperatures
from quaybest.yard import above, can_place, placed

MOST_PLUGGED = 4


class Ashore:
    """Keeps the boxes ashore, and the plan for the plugs."""

    def __init__(self, slots, height, plugs):
        self.columns = ((),) * slots
        self.height = height
        self.plugs = plugs
        self.on_plugs = []
        # The choices ahead of the cycle and those of it, None without a plan; and the hours that passed by it.
        self.plan = None
        self.hours = 0

    def is_available(self, box):
        """True if a box can be taken."""
        if box.where[0] == "yard":
            return not above(self.columns, box.number)
        return box.where[0] in ("apron", "reefers")

    def columns_without(self, box):
        """The columns of the yard without a box."""
        return tuple([tuple([number for number in column if number != box.number]) for column in self.columns])

    def can_place(self, box, slot):
        """True if a box, once it is taken, can be placed on a slot."""
        return can_place(self.columns_without(box), self.height, box.container.feet, slot)

    def take(self, box):
        """Take a box that is available."""
        self.columns = self.columns_without(box)
        if box.where[0] == "reefers":
            self.on_plugs = [other for other in self.on_plugs if other.number != box.number]
            self.plan = None

    def place(self, box, slot):
        """Take a box and place it in the yard; return its tier."""
        self.take(box)
        self.columns = placed(self.columns, box.number, box.container.feet, slot)
        box.where = ("yard", slot)
        return len(self.columns[slot]) - 1

    def plug(self, box):
        """Take a box and put it on the plugs; return how many are there."""
        self.take(box)
        self.on_plugs.append(box)
        self.plan = None
        box.where = ("reefers",)
        return len(self.on_plugs)

    def reefers(self):
        """The boxes on the plugs, as those of part K."""
        return tuple([box.container.reefer for box in self.on_plugs])

    def make_plan(self):
        """Make the plan for the boxes on the plugs; return it, or None if there is none."""
        plan = shortest_cycle(self.reefers(), self.plugs)
        if plan is not None:
            self.plan = plan
            self.hours = 0
        return plan

    def next_choice(self):
        """The choice of the plan for the next hour."""
        ahead, cycle = self.plan
        if self.hours < len(ahead):
            return ahead[self.hours]
        return cycle[(self.hours - len(ahead)) % len(cycle)]

    def pass_hour(self):
        """Let an hour pass on the plugs."""
        if not self.on_plugs:
            return
        reefers = self.reefers()
        temperatures = after_hour(reefers, [reefer[4] for reefer in reefers], self.next_choice())
        containers = [box.container for box in self.on_plugs]
        for container, reefer in zip(containers, with_temperatures(reefers, temperatures)):
            container.reefer = reefer
        self.hours += 1
