"""What comes to a terminal: containers, ships that arrive, and the setup of the terminal itself."""

from quaybest.codes import BadCode, check_assignable
from quaybest.customs import UnknownState
from quaybest.errors import QuayError
from quaybest.formulas import read_formula
from quaybest.rail import CraneRail
from quaybest.tides import check_sills, check_tide

LAST_PORT = 11
GREATEST_WEIGHT = 400


class BadArrival(QuayError):
    """A container, an arrival or a setup is not as it should be."""

    def __init__(self, reason):
        self.reason = reason


def require(condition, reason):
    """Raise BadArrival with a reason unless a condition holds."""
    if not condition:
        raise BadArrival(reason)


def tuples_of(rows):
    """Rows, a list or tuple of such, as a tuple of tuples."""
    return tuple([tuple(row) for row in rows])


class Container:
    """A box: its code, its size, its ports, and what customs and stowage need to know of it."""

    def __init__(self, code, feet, weight, ports, *, goods=None, reefer=None, formula=0, value=0):
        try:
            check_assignable(code)
        except BadCode:
            raise BadArrival("code") from None
        require(feet in (20, 40), "feet")
        require(1 <= weight <= GREATEST_WEIGHT, "weight")
        require(len(ports) == 2 and 0 <= ports[0] < ports[1] <= LAST_PORT, "ports")
        require(value >= 0, "value")
        self.code = code
        self.feet = feet
        self.weight = weight
        self.ports = tuple(ports)
        self.goods = goods
        self.reefer = None if reefer is None else tuple(reefer)
        self.formula = formula
        self.value = value

    def copied(self):
        """A container like this one."""
        return Container(self.code, self.feet, self.weight, self.ports, goods=self.goods, reefer=self.reefer,
                         formula=self.formula, value=self.value)


class Arrival:
    """A ship that arrives, with the boxes on board."""

    def __init__(self, *, position, length, stay, port, hull, places, tier, height, gear, acceleration, boxes, plan):
        require(position >= 0 and length >= 1 and stay >= 1, "quay")
        require(1 <= port < LAST_PORT, "port")
        require(places and all([0 <= place[0] < length for place in places]), "places")
        require(tier >= 0 and height >= 1, "height")
        require(all([box.ports[0] < port <= box.ports[1] for box in boxes]), "transit")
        require(len(plan) == len(boxes) and all([0 <= stack < len(places) for stack in plan]), "plan")
        self.position = position
        self.length = length
        self.stay = stay
        self.port = port
        self.hull = hull
        self.places = tuples_of(places)
        self.tier = tier
        self.height = height
        self.gear = gear
        self.acceleration = acceleration
        self.boxes = tuple(boxes)
        self.plan = tuple(plan)


class Setup:
    """What a terminal has: its water, its quay and cranes, its yard and plugs, its gate, its customs and its goods."""

    def __init__(self, *, tide, sills, bollards, gap, cranes, slots, height, plugs, quotas, table, free, formulas, bond,
                 goods):
        check_tide(tide)
        check_sills(sills)
        require(bollards >= 1, "bollards")
        # The rail itself is made for its errors alone.
        CraneRail(gap, cranes)
        require(slots >= 2 and height >= 1, "yard")
        require(plugs >= 0, "plugs")
        require(quotas and min(quotas) >= 0, "quotas")
        if free not in table.states:
            raise UnknownState(free)
        require(formulas, "formulas")
        require(bond >= 0, "bond")
        self.formulas = tuple([read_formula(text) for text in formulas])
        self.tide = tuples_of(tide)
        self.sills = tuples_of(sills)
        self.bollards = bollards
        self.gap = gap
        self.cranes = tuple(cranes)
        self.slots = slots
        self.height = height
        self.plugs = plugs
        self.quotas = tuple(quotas)
        self.table = table
        self.free = free
        self.bond = bond
        self.goods = (tuples_of(goods[0]), tuple(goods[1]))
