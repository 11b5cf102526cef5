"""[D4], [D5] and quaybest.manifolds."""

import random

from quaybest.manifolds import BadTanks, Manifold, NoTank, NoneOpen, NothingToUndo, Overflow, TooLittle, TwoProducts
from support import Case
from test_pipeline import batches_of, some_sequence, units_of


class Model:
    """A manifold by the words of [D4], unit by unit."""

    def __init__(self, pipe, tanks):
        self.units = units_of(pipe)
        self.held = [[product] * amount for product, amount, _ in tanks]
        self.capacities = [capacity for _, _, capacity in tanks]
        self.opened = {"A": None, "B": None}

    def copied(self):
        other = Model([], [])
        other.units = list(self.units)
        other.held = [list(row) for row in self.held]
        other.capacities = self.capacities
        other.opened = dict(self.opened)
        return other

    def state(self):
        tanks = tuple((row[0] if row else None, len(row), capacity)
                      for row, capacity in zip(self.held, self.capacities))
        return batches_of(self.units), tanks, (self.opened["A"], self.opened["B"])

    def pump(self, tank, end, amount):
        """The error that is due, or the product that came out."""
        if not 0 <= tank < len(self.held):
            return NoTank
        if len(self.held[tank]) < amount:
            return TooLittle
        goal = self.opened["B" if end == "A" else "A"]
        if goal is None:
            return NoneOpen
        out = []
        for _ in range(amount):
            unit = self.held[tank].pop()
            if end == "A":
                self.units.insert(0, unit)
                out.append(self.units.pop())
            else:
                self.units.append(unit)
                out.append(self.units.pop(0))
        self.held[goal] += out
        if len(set(out)) > 1 or len(set(self.held[goal])) > 1:
            return TwoProducts
        if len(self.held[goal]) > self.capacities[goal]:
            return Overflow
        return out[0]


def state(manifold):
    return manifold.pipe(), manifold.tanks(), manifold.open_tanks()


def some_manifold(chance):
    pipe = some_sequence(chance, 1, 3, 2)
    tanks = [(chance.randrange(2), chance.choice((0, 2, 5)), chance.choice((5, 8, 20)))
             for _ in range(chance.randint(1, 4))]
    return pipe, tanks


class ManifoldTest(Case):
    """[D4]: tanks, openings, pumping."""

    def test_first_state(self):
        manifold = Manifold([(1, 3), (1, 1), (2, 2)], [(1, 4, 9), (2, 0, 5), (3, 5, 5)])
        self.same(manifold.pipe(), ((1, 4), (2, 2)))
        self.same(manifold.tanks(), ((1, 4, 9), (None, 0, 5), (3, 5, 5)))
        self.same(manifold.open_tanks(), (None, None))

    def test_opening(self):
        manifold = Manifold([(1, 3)], [(1, 0, 9), (2, 0, 5)])
        self.same(manifold.open_at("A", 1), None)
        self.same(manifold.open_at("B", 0), None)
        self.same(manifold.open_tanks(), (1, 0))
        self.same(manifold.open_at("A", 0), 1)
        self.same(manifold.open_at("B", 0), 0)
        self.same(manifold.open_tanks(), (0, 0))
        for tank in (-1, 2, 9):
            self.refused(NoTank, manifold.open_at, "A", tank)
            self.refused(NoTank, manifold.open_at, "B", tank)

    def test_pumping(self):
        manifold = Manifold([(1, 3), (2, 2)], [(5, 4, 9), (0, 0, 5)])
        manifold.open_at("B", 1)
        self.same(manifold.pump(0, "A", 2), 2)
        self.same(state(manifold), (((5, 2), (1, 3)), ((5, 2, 9), (2, 2, 5)), (None, 1)))
        self.refused(TwoProducts, manifold.pump, 0, "A", 1)
        manifold.open_at("A", 0)
        self.same(manifold.pump(1, "B", 2), 5)
        self.same(state(manifold), (((1, 3), (2, 2)), ((5, 4, 9), (None, 0, 5)), (0, 1)))

    def test_tank_that_is_open_at_both_ends(self):
        manifold = Manifold([(1, 3)], [(1, 2, 2)])
        manifold.open_at("A", 0)
        manifold.open_at("B", 0)
        self.same(manifold.pump(0, "A", 2), 1)
        self.same(manifold.pump(0, "B", 1), 1)
        self.same(state(manifold), (((1, 3),), ((1, 2, 2),), (0, 0)))

    def test_tank_that_pumps_to_itself(self):
        manifold = Manifold([(1, 3)], [(2, 2, 2)])
        manifold.open_at("B", 0)
        self.refused(TwoProducts, manifold.pump, 0, "A", 1)
        self.same(manifold.pump(0, "A", 2), 1)
        self.same(state(manifold), (((2, 2), (1, 1)), ((1, 2, 2),), (None, 0)))

    def test_tank_that_is_emptied_and_used_again(self):
        manifold = Manifold([(1, 3)], [(2, 3, 3), (3, 1, 3)])
        manifold.open_at("B", 1)
        self.refused(TwoProducts, manifold.pump, 0, "A", 3)
        self.same(manifold.drain(1), 1)
        self.same(manifold.tanks(), ((2, 3, 3), (None, 0, 3)))
        self.same(manifold.pump(0, "A", 3), 1)
        self.same(manifold.tanks(), ((None, 0, 3), (1, 3, 3)))
        manifold.open_at("A", 0)
        self.same(manifold.pump(1, "B", 3), 2)
        self.same(manifold.tanks(), ((2, 3, 3), (None, 0, 3)))

    def test_more_units_than_the_pipe(self):
        manifold = Manifold([(1, 2)], [(1, 9, 9), (0, 0, 7)])
        manifold.open_at("B", 1)
        self.same(manifold.pump(0, "A", 7), 1)
        self.refused(Overflow, manifold.pump, 0, "A", 1)

    def test_capacity(self):
        manifold = Manifold([(1, 9)], [(2, 9, 9), (1, 3, 5)])
        manifold.open_at("A", 1)
        self.refused(Overflow, manifold.pump, 0, "B", 3)
        self.same(manifold.pump(0, "B", 2), 1)
        self.same(manifold.tanks(), ((2, 7, 9), (1, 5, 5)))

    def test_which_error_is_told_first(self):
        manifold = Manifold([(1, 1), (2, 5)], [(3, 4, 4), (4, 1, 1), (0, 0, 2)])
        self.refused(NoTank, manifold.pump, 3, "A", 9)
        self.refused(NoTank, manifold.pump, -1, "A", 9)
        self.refused(TooLittle, manifold.pump, 0, "A", 5)
        self.refused(TooLittle, manifold.pump, 2, "A", 1)
        self.refused(NoneOpen, manifold.pump, 0, "A", 4)
        manifold.open_at("A", 1)
        self.refused(NoneOpen, manifold.pump, 0, "A", 4)
        self.refused(TwoProducts, manifold.pump, 0, "B", 1)
        self.refused(TwoProducts, manifold.pump, 0, "B", 4)
        manifold.open_at("A", 2)
        self.refused(TwoProducts, manifold.pump, 0, "B", 3)
        manifold.open_at("B", 2)
        self.refused(Overflow, manifold.pump, 0, "A", 3)
        self.same(manifold.pump(0, "A", 2), 2)

    def test_draining(self):
        manifold = Manifold([(1, 1)], [(3, 4, 4), (4, 0, 1)])
        for tank in (-1, 2):
            self.refused(NoTank, manifold.drain, tank)
        self.refused(TooLittle, manifold.drain, 1)
        self.same(manifold.drain(0), 4)
        self.refused(TooLittle, manifold.drain, 0)

    def test_wrong_tanks(self):
        self.refused(BadTanks, Manifold, [(1, 1)], [(1, 4, 4), (1, 5, 4), (1, 9, 2)], told={"tank": 1})
        self.refused(BadTanks, Manifold, [(1, 1)], [(1, 5, 4)], told={"tank": 0})
        self.same(Manifold([(1, 1)], [(1, 4, 4)]).tanks(), ((1, 4, 4),))

    def test_undo(self):
        manifold = Manifold([(1, 3)], [(2, 3, 3), (3, 1, 3)])
        self.refused(NothingToUndo, manifold.undo)
        states = [state(manifold)]
        for call, args in ((manifold.open_at, ("B", 1)), (manifold.open_at, ("B", 1)), (manifold.open_at, ("A", 0)),
                           (manifold.drain, (1,)), (manifold.pump, (0, "A", 2)), (manifold.drain, (0,))):
            call(*args)
            states.append(state(manifold))
        self.refused(TooLittle, manifold.drain, 0)
        for left in (5, 4, 3, 2, 1, 0):
            self.assertEqual(state(manifold), states[left + 1])
            self.same(manifold.undo(), left)
            self.assertEqual(state(manifold), states[left])
        self.refused(NothingToUndo, manifold.undo)

    def test_random_calls(self):
        chance = random.Random(1)
        pumped = 0
        for _ in range(600):
            pipe, tanks = some_manifold(chance)
            manifold, model, earlier = Manifold(pipe, tanks), Model(pipe, tanks), []
            for _ in range(40):
                pumped += self.one_call(chance, manifold, model, earlier)
                self.same(state(manifold), model.state())
        self.assertGreater(pumped, 300)

    def one_call(self, chance, manifold, model, earlier):
        """Do the same with both; return how many times units were pumped."""
        word = chance.choice(["open", "open", "pump", "pump", "pump", "pump", "drain", "undo"])
        kept = model.copied()
        tank, end = chance.randint(-1, len(model.held)), chance.choice("AB")
        if word == "undo":
            if not earlier:
                self.refused(NothingToUndo, manifold.undo)
                return 0
            self.take_over(model, earlier.pop())
            self.same(manifold.undo(), len(earlier))
            return 0
        if not 0 <= tank < len(model.held):
            self.refused(NoTank, manifold.open_at, end, tank)
            self.refused(NoTank, manifold.pump, tank, end, 1)
            return 0
        if word == "open":
            self.same(manifold.open_at(end, tank), model.opened[end])
            model.opened[end] = tank
        elif word == "drain" and not model.held[tank]:
            self.refused(TooLittle, manifold.drain, tank)
            return 0
        elif word == "drain":
            self.same(manifold.drain(tank), len(model.held[tank]))
            model.held[tank] = []
        else:
            return self.one_pumping(chance, manifold, model, earlier, tank, end)
        earlier.append(kept)
        return 0

    def one_pumping(self, chance, manifold, model, earlier, tank, end):
        kept = model.copied()
        amount = chance.choice((1, 1, 2, 3, 6))
        wanted = model.pump(tank, end, amount)
        if isinstance(wanted, int):
            self.same(manifold.pump(tank, end, amount), wanted)
            earlier.append(kept)
            self.keeps_units(kept, model)
            return 1
        self.refused(wanted, manifold.pump, tank, end, amount)
        self.take_over(model, kept)
        return 0

    def keeps_units(self, before, after):
        """[D5]: as many units of each product as before, and as many in the pipe."""
        def all_units(model):
            return sorted(model.units + [unit for row in model.held for unit in row])
        self.assertEqual(all_units(before), all_units(after))
        self.assertEqual(len(before.units), len(after.units))

    def take_over(self, model, other):
        model.units, model.held, model.opened = other.units, other.held, other.opened

    def test_later_changes_of_arguments(self):
        pipe, tanks = [[1, 3]], [[1, 2, 3]]
        manifold = Manifold(pipe, tanks)
        pipe[0][1] = 9
        tanks[0][1] = 0
        self.same(state(manifold), (((1, 3),), ((1, 2, 3),), (None, None)))
