"""[Q1] to [Q3] and quaybest.arrivals."""

import itertools

from office import GEAR, GOODS, HULL, REEFER, TABLE, box, code, settings, ship
from quaybest.arrivals import Arrival, BadArrival, Container, Setup
from quaybest.cranes import BadPaths, TooClose
from quaybest.customs import UnknownState
from quaybest.formulas import BadFormula, TooLong
from quaybest.tides import BadSills, BadTide
from support import Case, listed, tupled


class ContainerTest(Case):
    """[Q1]: containers."""

    def test_attributes(self):
        for form in (listed, tupled):
            found = Container(code(3), 40, 400, form((0, 11)), goods=1, reefer=form(REEFER), formula=1, value=7)
            self.same((found.code, found.feet, found.weight, found.ports, found.goods, found.reefer, found.formula,
                       found.value), (code(3), 40, 400, (0, 11), 1, REEFER, 1, 7))
        found = Container(code(3), 20, 1, (10, 11))
        self.same((found.feet, found.weight, found.ports, found.goods, found.reefer, found.formula, found.value),
                  (20, 1, (10, 11), None, None, 0, 0))

    def test_copied(self):
        first = box(3, feet=40, weight=77, ports=[2, 4], goods=0, reefer=list(REEFER), formula=1, value=9)
        second = first.copied()
        self.assertIs(second.__class__, Container)
        self.assertIsNot(first, second)
        self.assertEqual(vars(first), vars(second))
        second.reefer = None
        second.value = 1
        self.same((first.reefer, first.value), (REEFER, 9))
        self.assertEqual(vars(box(4).copied()), vars(box(4)))

    def test_arguments_may_change_later(self):
        ports, reefer = [1, 2], list(REEFER)
        found = box(1, ports=ports, reefer=reefer)
        ports[0] = reefer[0] = 0
        self.same((found.ports, found.reefer), ((1, 2), REEFER))

    def test_wrong_containers(self):
        wrong_digit = code(1)[:-1] + str((int(code(1)[-1]) + 1) % 10)
        for text in ("", "QBSU", wrong_digit, code(1) + "0", code(1).lower(), " " + code(1), self.not_assignable()):
            self.refused(BadArrival, Container, text, 20, 1, (0, 1), told={"reason": "code"})
        for feet in (0, 10, 30, 45, -20):
            self.refused(BadArrival, Container, code(1), feet, 1, (0, 1), told={"reason": "feet"})
        for weight in (0, -1, 401):
            self.refused(BadArrival, Container, code(1), 20, weight, (0, 1), told={"reason": "weight"})
        for ports in ((0, 0), (1, 0), (-1, 3), (3, 12), (11, 11), (12, 13), (), (1,), (1, 2, 3)):
            self.refused(BadArrival, Container, code(1), 20, 1, ports, told={"reason": "ports"})
        self.refused(BadArrival, box, 1, value=-1, told={"reason": "value"})

    def not_assignable(self):
        """A valid code that is not assignable: its remainder is 10."""
        values = dict(zip("0123456789A?BCDEFGHIJK?LMNOPQRSTU?VWXYZ", range(39)))
        for number in itertools.count():
            body = f"QBSU{number:06}"
            if sum(values[letter] * 2 ** place for place, letter in enumerate(body)) % 11 == 10:
                return body + "0"

    def test_first_reason(self):
        wrong = [("code", "x"), ("feet", 21), ("weight", 0), ("ports", (3, 3)), ("value", -1)]
        for many in range(1, 6):
            for faults in itertools.combinations(wrong, many):
                told = {"code": code(1), "feet": 20, "weight": 5, "ports": (1, 2), "value": 0, **dict(faults)}
                self.refused(BadArrival, Container, told={"reason": faults[0][0]}, **told)


class ArrivalTest(Case):
    """[Q2]: ships that arrive."""

    def test_attributes(self):
        boxes = [box(1), box(2, ports=(0, 3))]
        for form in (list, tuple):
            found = ship(form(boxes), form([1, 0]), places=form([form((0, 1, 2, 3)), form((9, 4, 5, 6))]), tier=0, height=1)
            self.same((found.position, found.length, found.stay, found.port, found.places, found.tier, found.height,
                       found.acceleration, found.plan), (0, 10, 60, 3, ((0, 1, 2, 3), (9, 4, 5, 6)), 0, 1, 10, (1, 0)))
            self.assertEqual((found.boxes, found.hull, found.gear), (tuple(boxes), HULL, GEAR))
            self.assertIs(found.boxes.__class__, tuple)
        self.same((ship().boxes, ship().plan), ((), ()))

    def test_limits(self):
        for port in (1, 10):
            self.same(ship(port=port).port, port)
        self.same(ship(length=1, stay=1, places=[(0, 0, 0, 0)]).length, 1)
        ship([box(1, ports=(2, 3)), box(2, ports=(0, 11))], (0, 1))

    def test_wrong_ships(self):
        wrong = {"quay": ({"position": -1}, {"length": 0}, {"stay": 0}, {"length": -5, "places": ()}),
                 "port": ({"port": 0}, {"port": 11}, {"port": -1}),
                 "places": ({"places": ()}, {"places": [(-1, 0, 0, 0)]}, {"places": [(0, 0, 0, 0), (10, 0, 0, 0)]}),
                 "height": ({"tier": -1}, {"height": 0}),
                 "transit": ({"boxes": [box(1, ports=(3, 4))], "plan": [0]}, {"boxes": [box(1, ports=(0, 2))], "plan": [0]},
                             {"boxes": [box(1), box(2, ports=(5, 6))], "plan": [0, 0]}),
                 "plan": ({"boxes": [box(1)], "plan": []}, {"plan": [0]}, {"boxes": [box(1)], "plan": [2]},
                          {"boxes": [box(1)], "plan": [-1]}, {"boxes": [box(1)], "plan": [0, 0]})}
        for reason, rows in wrong.items():
            for more in rows:
                self.refused(BadArrival, ship, told={"reason": reason}, **more)

    def test_first_reason(self):
        wrong = [("quay", {"stay": 0}), ("port", {"port": 11}), ("places", {"places": ()}), ("height", {"height": 0}),
                 ("transit", {"boxes": [box(1, ports=(0, 1))]}), ("plan", {"plan": (7,)})]
        for many in range(1, 7):
            for faults in itertools.combinations(wrong, many):
                more = {key: value for _, fault in faults for key, value in fault.items()}
                if "boxes" in more and "plan" not in more:
                    more["plan"] = (0,)
                self.refused(BadArrival, ship, told={"reason": faults[0][0]}, **more)

    def test_keywords_alone(self):
        with self.assertRaises(TypeError):
            Arrival(0, 10, 60, 3, HULL, ((0, 0, 0, 5),), 3, 4, GEAR, 10, (), ())


class SetupTest(Case):
    """[Q3]: setups."""

    def test_attributes(self):
        wanted = settings(goods=GOODS)
        for form in (listed, tupled):
            given = {key: form(value) if isinstance(value, tuple) else value for key, value in wanted.items()}
            found = Setup(**given)
            for key, value in wanted.items():
                if key not in ("table", "formulas"):
                    self.same(getattr(found, key), value)
            self.assertIs(found.table, TABLE)
            self.same(found.formulas, (("percent", 8), ("half", ("kilo", 1))))

    def test_arguments_may_change_later(self):
        given = {key: listed(value) if isinstance(value, tuple) else value for key, value in settings().items()}
        found = Setup(**given)
        given["tide"][0][0] = given["sills"][0][1] = given["cranes"][0] = given["quotas"][0] = 77
        given["goods"][0][0][0] = given["goods"][1][0] = 77
        self.same((found.tide, found.sills, found.cranes, found.quotas, found.goods),
                  (((0, 0), (100000, 0)), ((0, 100),), (0, 5), (9,) * 10, GOODS))

    def test_limits(self):
        found = Setup(**settings(bollards=1, slots=2, height=1, plugs=0, quotas=[0], bond=0, formulas=["0 percent"],
                                 cranes=[200], gap=12))
        self.same((found.bollards, found.slots, found.height, found.plugs, found.quotas, found.bond), (1, 2, 1, 0, (0,), 0))

    def test_wrong_setups(self):
        rows = [({"tide": [(0, 0)]}, BadTide, {"number": None}), ({"tide": [(0, 0), (5, 0), (5, 0)]}, BadTide, {"number": 2}),
                ({"sills": []}, BadSills, {"number": None}), ({"sills": [(0, 5), (3, 3001)]}, BadSills, {"number": 1}),
                ({"bollards": 0}, BadArrival, {"reason": "bollards"}), ({"cranes": []}, BadPaths, {"minute": None}),
                ({"cranes": [0, 201]}, BadPaths, {"minute": 0}), ({"cranes": [0, 1]}, TooClose, {"number": 0}),
                ({"slots": 1}, BadArrival, {"reason": "yard"}), ({"height": 0}, BadArrival, {"reason": "yard"}),
                ({"plugs": -1}, BadArrival, {"reason": "plugs"}), ({"quotas": []}, BadArrival, {"reason": "quotas"}),
                ({"quotas": [1, -1, 2]}, BadArrival, {"reason": "quotas"}), ({"free": "gone"}, UnknownState, {"state": "gone"}),
                ({"formulas": []}, BadArrival, {"reason": "formulas"}), ({"bond": -1}, BadArrival, {"reason": "bond"}),
                ({"formulas": ["1 percent", "2"]}, BadFormula, {"position": 1}),
                ({"formulas": ["+".join(["1 percent"] * 25)]}, TooLong, {})]
        for more, error, told in rows:
            self.refused(error, Setup, told=told, **settings(**more))
        # Those that stand behind one another in these rows are told in this order, too.
        singles = [row for row in rows if row[0] != {"formulas": []}]
        for (first, error, told), (second, _, _) in itertools.combinations(singles, 2):
            if not set(first) & set(second):
                self.refused(error, Setup, told=told, **settings(**first, **second))
        self.refused(BadArrival, Setup, told={"reason": "formulas"}, **settings(formulas=[], bond=-1))
        self.refused(UnknownState, Setup, told={"state": "x"}, **settings(formulas=[], free="x"))
