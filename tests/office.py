"""Setups, containers, ships and terminals for the tests of part Q."""

from quaybest.arrivals import Arrival, Container, Setup
from quaybest.customs import Table
from quaybest.lashing import Gear
from quaybest.ranks import nth
from quaybest.refusals import Refused
from quaybest.stability import Hull
from quaybest.terminal import Terminal

TABLE = Table(("entry", "bond", "free"), ("entry",), (("entry", "bond"), ("bond", "free"), ("entry", "free")))
# Goods of the classes 0 and 0 have to be 2 apart, of 0 and 1 3, of 1 and 1 just 1.
GOODS = (((1, 2), (2, 0)), (0, 2, 3, 7))
HULL = Hull((1000, 0, 0, 10), ((2, 1000, 200), (40, 9000, 200)), ((300, 0, 5, 1, 2), (200, 3, 0, 1, 0)),
            height=1, heel=1000, trim=50)
GEAR = Gear(joint=5000, rod=1000, reach=2, rods=3, weight=900, post=700)
REEFER = (1, 2, 0, 3, 0)


def code(number):
    """A different assignable code for each number."""
    return nth("QBSU", number)


def box(number, **more):
    """A container with the code of this number."""
    told = {"feet": 20, "weight": 10, "ports": (1, 5), **more}
    return Container(code(number), told.pop("feet"), told.pop("weight"), told.pop("ports"), **told)


def own(number, **more):
    """A box whose journey ends in port 3."""
    return box(number, ports=(1, 3), **more)


def ship(boxes=(), plan=(), **more):
    """A ship in port 3 with two stacks, over the bollards 0 and 5 of its ten."""
    told = {"position": 0, "length": 10, "stay": 60, "port": 3, "hull": HULL, "places": ((0, 0, 0, 5), (5, 1, 0, 5)),
            "tier": 3, "height": 4, "gear": GEAR, "acceleration": 10, "boxes": boxes, "plan": plan, **more}
    return Arrival(**told)


def settings(**more):
    """What a setup is made of: water at all times, two cranes at 0 and 5, ten hours, two formulas."""
    return {"tide": ((0, 0), (100000, 0)), "sills": ((0, 100),), "bollards": 30, "gap": 2, "cranes": (0, 5), "slots": 4,
            "height": 3, "plugs": 1, "quotas": (9,) * 10, "table": TABLE, "free": "free",
            "formulas": ("8 percent", "half of (1 per kg)"), "bond": 1000, "goods": GOODS, **more}


def setup(**more):
    return Setup(**settings(**more))


def terminal(**more):
    return Terminal(setup(**more))


def served(office, *boxes):
    """Let trucks bring boxes in the present hour; return their codes."""
    hour = office.now() // 60
    trucks = [office.book(hour, hour) for _ in boxes]
    office.next_hour()
    for truck, container in zip(trucks, boxes):
        office.receive(truck, container)
    return [container.code for container in boxes]


def questions(office):
    """What a terminal answers to all questions."""
    ships = range(ships_of(office))
    codes = [box.code for entry in office.journal() for box in known_by(entry)]
    return {"now": office.now(), "places": {code: office.locate(code) for code in codes},
            "stacks": [office.stacks(number) for number in ships], "tallies": [office.tally(number) for number in ships],
            "berths": office.berthing_times(), "temperatures": office.temperatures(), "trucks": office.trucks(),
            "irregular": office.irregular(), "owed": office.duty_owed(), "bond": office.bond(),
            "log": office.crane_log(), "rows": office.crane_rows(), "journal": office.journal()}


def known_by(entry):
    """The containers that become known by an entry of a journal."""
    if entry[0] == "add_ship":
        return entry[1].boxes
    return entry[2:] if entry[0] == "receive" else ()


def ships_of(office):
    return sum(entry[0] == "add_ship" for entry in office.journal())


def reason_of(call, *args):
    """The reason for which a call is refused; None if it returns."""
    try:
        call(*args)
    except Refused as refusal:
        return refusal.reason
    return None
