"""[E4], [E5] and quaybest.vessels."""

import random
from fractions import Fraction

from quaybest.stability import Hull
from quaybest.vessels import BadFill, NoChange, NoLoad, NoTank, NotStable, TooManyLoads, Vessel
from support import Case
from test_stability import CURVE, Model, example_hull, some_hull, told_column


def long_hull(**more):
    limits = dict({"height": 1, "heel": 100, "trim": 5}, **more)
    return Hull((100, 0, 0, 10), [(2, 100, 14), (4, 200, 12), (6, 320, 12)], [], **limits)


def state(vessel):
    return vessel.loads(), vessel.fills(), vessel.weight(), vessel.draught()


def told_draught(hull, weight):
    """The least integer from the first draught on at which the displacement is at least a weight."""
    draught = hull.curve[0][0]
    while told_column(hull.curve, 0, 1, draught) < weight:
        draught += 1
    return draught


class NewVesselTest(Case):
    """Vessels without loads."""

    def test_first_state(self):
        self.same(state(Vessel(example_hull())), ((), (0, 0), 100, 2))
        self.same(state(Vessel(long_hull())), ((), (), 100, 2))

    def test_hull_that_is_not_stable(self):
        for lightship, words in (((99, 0, 0, 10), ("curve",)), ((321, 0, 0, 10), ("curve",)),
                                 ((100, 0, 0, 14), ("height",)), ((100, 6, 1, 12), ("heel", "trim")),
                                 ((100, -6, 0, 15), ("height", "trim"))):
            hull = Hull(lightship, CURVE, [(20, 10, 0, 2, 30)], height=1, heel=100, trim=5)
            self.refused(NotStable, Vessel, hull, told={"words": words})

    def test_ballast_that_would_help_is_not_there(self):
        hull = Hull((90, 0, 0, 10), CURVE, [(10, 0, 0, 5, 9)], height=1, heel=0, trim=0)
        self.refused(NotStable, Vessel, hull, told={"words": ("curve",)})


class ChangesTest(Case):
    """Loads that come, go and are shifted, water, and what is taken back."""

    def test_example(self):
        vessel = Vessel(example_hull())
        self.same(vessel.load((50, 0, 0, 10)), 0)
        self.same(vessel.load((50, 16, 0, 10)), 1)
        self.same((vessel.weight(), vessel.draught()), (200, 4))

    def test_load(self):
        vessel = Vessel(example_hull())
        load = [40, 15, 1, 10]
        self.same(vessel.load(load), 0)
        load[0] = 9
        self.same(vessel.loads(), ((40, 15, 1, 10),))
        self.refused(NotStable, vessel.load, (60, 16, 0, 10), told={"words": ("trim",)})
        self.refused(NotStable, vessel.load, (181, 16, 0, 10), told={"words": ("curve",)})
        self.refused(NotStable, vessel.load, (60, 26, 5, 15), told={"words": ("height", "heel", "trim")})
        self.same(state(vessel), (((40, 15, 1, 10),), (0, 0), 140, 3))

    def test_limit_that_is_met_exactly(self):
        vessel = Vessel(example_hull())
        self.same(vessel.load((100, 10, 0, 10)), 0)
        self.same(vessel.load((100, -25, 0, 10)), 1)
        self.same(vessel.shift(1, (5, 0, 10)), (-25, 0, 10))
        for x in (-26, 6):
            self.refused(NotStable, vessel.shift, 1, (x, 0, 10), told={"words": ("trim",)})

    def test_sixty_loads(self):
        vessel = Vessel(long_hull())
        self.assertEqual([vessel.load((1, 0, 0, k % 10)) for k in range(60)], list(range(60)))
        self.refused(TooManyLoads, vessel.load, (1, 0, 0, 10))
        self.refused(TooManyLoads, vessel.load, (900, 0, 0, 10))
        self.same(len(vessel.loads()), 60)
        self.same(vessel.unload(0), (1, 0, 0, 0))
        self.same(vessel.load((1, 0, 0, 10)), 59)

    def test_unload(self):
        vessel = Vessel(example_hull())
        loads = [(10, 0, 0, 10), (20, 2, 0, 10), (30, 3, 0, 10)]
        for load in loads:
            vessel.load(load)
        for number in (-1, 3, 60):
            self.refused(NoLoad, vessel.unload, number)
        self.same(vessel.unload(1), (20, 2, 0, 10))
        self.same(vessel.loads(), ((10, 0, 0, 10), (30, 3, 0, 10)))
        self.refused(NoLoad, vessel.unload, 2)
        self.same(vessel.unload(1), (30, 3, 0, 10))
        self.same(vessel.unload(0), (10, 0, 0, 10))
        self.refused(NoLoad, vessel.unload, 0)

    def test_unload_that_would_not_be_stable(self):
        vessel = Vessel(example_hull(trim=1))
        vessel.load((10, 11, 0, 10))
        vessel.load((20, -11, 0, 10))
        vessel.load((20, 11, 0, 10))
        self.refused(NotStable, vessel.unload, 1, told={"words": ("trim",)})
        self.same(vessel.loads(), ((10, 11, 0, 10), (20, -11, 0, 10), (20, 11, 0, 10)))
        self.same(vessel.unload(0), (10, 11, 0, 10))

    def test_shift(self):
        vessel = Vessel(example_hull())
        vessel.load((10, 0, 0, 10))
        vessel.load((20, 1, 0, 10))
        place = [5, 0, 9]
        self.same(vessel.shift(0, place), (0, 0, 10))
        place[0] = 7
        self.same(vessel.loads(), ((10, 5, 0, 9), (20, 1, 0, 10)))
        self.same(vessel.shift(0, (6, 0, 9)), (5, 0, 9))
        for number in (-1, 2):
            self.refused(NoLoad, vessel.shift, number, (0, 0, 10))
            self.refused(NoLoad, vessel.shift, number, (900, 0, 10))
        self.refused(NotStable, vessel.shift, 1, (900, 900, 90), told={"words": ("height", "trim")})
        self.same(vessel.loads(), ((10, 6, 0, 9), (20, 1, 0, 10)))

    def test_fill(self):
        vessel = Vessel(example_hull())
        self.same(vessel.fill(0, 20), 0)
        self.same(vessel.fill(1, 20), 0)
        self.same(vessel.fill(0, 7), 20)
        self.same(vessel.fill(0, 7), 7)
        self.same(state(vessel), ((), (7, 20), 127, 3))
        self.same(vessel.fill(1, 0), 20)
        self.same(vessel.fills(), (7, 0))
        for tank in (-1, 2):
            self.refused(NoTank, vessel.fill, tank, 5)
            self.refused(NoTank, vessel.fill, tank, 21)
        for amount in (-1, 21):
            self.refused(BadFill, vessel.fill, 0, amount)
        self.refused(NoTank, Vessel(long_hull()).fill, 0, 0)

    def test_fill_that_would_not_be_stable(self):
        vessel = Vessel(example_hull(trim=1))
        self.same(vessel.fill(0, 11), 0)
        self.refused(NotStable, vessel.fill, 0, 12, told={"words": ("trim",)})
        self.refused(BadFill, vessel.fill, 0, 21)
        self.same(vessel.fills(), (11, 0))

    def test_slack_tanks_count(self):
        vessel = Vessel(Hull((100, 0, 0, 10), CURVE, [(20, 0, 0, 10, 400)], height=1, heel=9, trim=9))
        self.same(vessel.fill(0, 20), 0)
        self.refused(NotStable, vessel.fill, 0, 19, told={"words": ("height",)})

    def test_draught(self):
        vessel = Vessel(example_hull())
        for weight, draught in ((1, 3), (49, 3), (1, 4), (49, 4), (1, 5), (59, 5), (1, 6), (59, 6)):
            vessel.load((weight, 0, 0, 10))
            self.same(vessel.draught(), draught)
        self.same(vessel.weight(), 320)

    def test_draughts_below_zero(self):
        hull = Hull((100, 0, 0, 10), [(-5, 100, 14), (-2, 200, 14), (3, 205, 14)], [], height=1, heel=9, trim=9)
        vessel = Vessel(hull)
        found = [vessel.draught()]
        for _ in range(21):
            vessel.load((5, 0, 0, 10))
            found.append(vessel.draught())
        self.same(found, [-5] + [-4] * 6 + [-3] * 7 + [-2] * 7 + [3])

    def test_undo_of_each_change(self):
        vessel = Vessel(example_hull())
        self.refused(NoChange, vessel.undo)
        states = [state(vessel)]
        for call, args in ((vessel.load, ((10, 0, 0, 10),)), (vessel.fill, (0, 5)), (vessel.shift, (0, (3, 0, 9))),
                           (vessel.load, ((20, 0, 0, 10),)), (vessel.fill, (0, 5)), (vessel.unload, (0,))):
            call(*args)
            states.append(state(vessel))
        self.refused(NoLoad, vessel.unload, 1)
        self.refused(NotStable, vessel.load, (900, 0, 0, 10))
        for left in (5, 4, 3, 2, 1, 0):
            self.same(state(vessel), states[left + 1])
            self.same(vessel.undo(), left)
            self.same(state(vessel), states[left])
        self.refused(NoChange, vessel.undo)
        self.same(vessel.load((10, 0, 0, 10)), 0)
        self.same(vessel.undo(), 0)

    def test_random_changes(self):
        chance = random.Random(1)
        seen = {}
        for _ in range(120):
            hull = some_hull(chance)
            fills = [0] * len(hull.tanks)
            words = Model(hull, [], fills).words()
            if words:
                self.refused(NotStable, Vessel, hull, told={"words": words})
                continue
            model = {"hull": hull, "loads": [], "fills": fills, "earlier": []}
            vessel = Vessel(hull)
            for _ in range(25):
                seen[self.one_change(chance, vessel, model)] = True
                weight = Model(hull, model["loads"], model["fills"]).weight
                self.same(state(vessel), (tuple(model["loads"]), tuple(model["fills"]), weight,
                                          told_draught(hull, weight)))
        self.assertGreater(len(seen), 15)

    def one_change(self, chance, vessel, model):
        """Do the same with the vessel and the model; return the word and what it came to."""
        word = chance.choice(["load", "load", "unload", "shift", "fill", "fill", "undo"])
        if word == "undo":
            if not model["earlier"]:
                self.refused(NoChange, vessel.undo)
                return word, ()
            model["loads"], model["fills"] = model["earlier"].pop()
            self.same(vessel.undo(), len(model["earlier"]))
            return word, None
        loads, fills = list(model["loads"]), list(model["fills"])
        place = (chance.randint(-9, 9), chance.randint(-3, 3), chance.randint(0, 12))
        if word == "load":
            load = (chance.randint(1, 30), *place)
            call, args, wanted = vessel.load, (load,), len(loads)
            loads.append(load)
        elif word == "fill" and fills:
            tank = chance.randrange(len(fills))
            amount = chance.choice((0, model["hull"].tanks[tank][0], chance.randint(0, model["hull"].tanks[tank][0])))
            call, args, wanted = vessel.fill, (tank, amount), fills[tank]
            fills[tank] = amount
        elif word in ("unload", "shift") and loads:
            number = chance.randrange(len(loads))
            if word == "unload":
                call, args, wanted = vessel.unload, (number,), loads.pop(number)
            else:
                call, args, wanted = vessel.shift, (number, place), loads[number][1:]
                loads[number] = (loads[number][0], *place)
        else:
            return word, ()
        words = Model(model["hull"], loads, fills).words()
        if words:
            self.refused(NotStable, call, *args, told={"words": words})
        else:
            self.same(call(*args), wanted)
            model["earlier"].append((model["loads"], model["fills"]))
            model["loads"], model["fills"] = loads, fills
        return word, words


class FractionsTest(Case):
    """The draught is exact where the curve is steep."""

    def test_steep_and_flat_curves(self):
        chance = random.Random(2)
        for _ in range(200):
            first, span, low, rise = (chance.randint(-9, 9), chance.randint(1, 9), chance.randint(1, 50),
                                      chance.randint(1, 60))
            hull = Hull((low, 0, 0, 0), [(first, low, 9), (first + span, low + rise, 9)], [], height=1, heel=0, trim=0)
            vessel = Vessel(hull)
            more = chance.randint(1, rise)
            vessel.load((more, 0, 0, 0))
            exact = first + Fraction(more * span, rise)
            self.assertLess(vessel.draught() - 1, exact)
            self.assertGreaterEqual(vessel.draught(), exact)
            self.same(vessel.draught(), told_draught(hull, low + more))
