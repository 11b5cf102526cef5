"""[I1] to [I3] and quaybest.cranes."""

import itertools
import random

from quaybest.cranes import BadPaths, BadSweep, NotStepwise, TooClose, first_violation, ranks, route, sweep, uncross
from support import Case

ROW_CALLS = [lambda paths: first_violation(paths, 1), uncross, ranks]


def some_paths(chance, cranes, minutes, jumping=0):
    rows = [[chance.randint(5, 12) for _ in range(cranes)]]
    while len(rows) < minutes:
        rows.append([position + chance.choice((-1, 0, 1)) for position in rows[-1]])
        if chance.random() < jumping:
            rows[-1][chance.randrange(cranes)] += 2
    return rows


class BadPathsTest(Case):
    """[I1]: rows that are no paths."""

    def refused_paths(self, paths, minute):
        for call in ROW_CALLS:
            self.refused(BadPaths, call, paths, told={"minute": minute})

    def test_numbers_of_rows_and_cranes(self):
        self.refused_paths([], None)
        self.refused_paths([()], None)
        self.refused_paths([(1,) * 7], None)
        self.refused_paths([(1,)] * 2501, None)
        self.refused_paths([(-1,)] * 2501, None)
        self.refused_paths([(), (1,)], None)
        self.refused_paths([(999,) * 7, (1,)], None)

    def test_as_many_as_may_be(self):
        self.same(first_violation([(7,)] * 2500, 12), None)
        self.same(uncross([(7,)] * 2500), ((7,),) * 2500)
        self.same(ranks([(9, 8, 7, 6, 5, 4)] * 2), ((5, 4, 3, 2, 1, 0),) * 2)

    def test_rows_with_other_numbers_of_cranes(self):
        self.refused_paths([(1, 2), (1, 2), (1,), (1, 2, 3)], 2)
        self.refused_paths([(1, 2), (1, 2, 3)], 1)
        self.refused_paths([(1, 2), ()], 1)

    def test_positions_out_of_range(self):
        for position in (-1, 201):
            self.refused_paths([(1, 2), (1, position), (1,)], 1)
            self.refused_paths([(position, 2)], 0)
            self.refused_paths([(1, 2), (1,), (1, position)], 1)

    def test_first_and_last_position(self):
        self.same(first_violation([(0, 200), (1, 199), (0, 200)], 12), None)
        self.same(uncross([(200, 0), (199, 0)]), ((0, 200), (0, 199)))
        self.same(ranks([(200, 0)]), ((1, 0),))


class ViolationTest(Case):
    """The first minute and crane with a fault."""

    def told(self, paths, gap):
        for minute, row in enumerate(paths):
            for crane in range(len(row)):
                if minute and abs(row[crane] - paths[minute - 1][crane]) > 1:
                    return minute, crane, "jump"
                if crane and row[crane] < row[crane - 1] + gap:
                    return minute, crane, "too close"
        return None

    def test_gap(self):
        self.same(first_violation([(0, 3)], 3), None)
        self.same(first_violation([(0, 3)], 4), (0, 1, "too close"))
        self.same(first_violation([(3, 0)], 1), (0, 1, "too close"))
        self.same(first_violation([(3, 3)], 1), (0, 1, "too close"))
        self.same(first_violation([(0, 12, 24), (0, 12, 23)], 12), (1, 2, "too close"))
        self.same(first_violation([(5,), (6,)], 12), None)

    def test_jumps(self):
        self.same(first_violation([(0,), (1,), (3,)], 1), (2, 0, "jump"))
        self.same(first_violation([(9,), (7,)], 1), (1, 0, "jump"))
        self.same(first_violation([(9,), (8,), (9,)], 1), None)

    def test_first_of_several(self):
        self.same(first_violation([(0, 5), (0, 3), (9, 9)], 4), (1, 1, "jump"))
        self.same(first_violation([(0, 5), (2, 3)], 4), (1, 0, "jump"))
        self.same(first_violation([(0, 5, 9), (1, 4, 7)], 4), (1, 1, "too close"))

    def test_random_paths(self):
        chance = random.Random(1)
        found = {}
        for _ in range(600):
            cranes = chance.randint(1, 4)
            paths = [sorted(row) for row in some_paths(chance, cranes, chance.randint(1, 6), 0.1)]
            for gap in (1, 2):
                wanted = self.told(paths, gap)
                found[wanted] = True
                self.same(first_violation(paths, gap), wanted)
        self.assertGreater(len(found), 20)


class UncrossTest(Case):
    """Paths without cranes that pass one another, and ranks."""

    def told_ranks(self, paths):
        before, found = list(range(len(paths[0]))), []
        for row in paths:
            before = [sum(row[other] < row[crane] or (row[other] == row[crane] and before[other] < before[crane])
                          for other in range(len(row))) for crane in range(len(row))]
            found.append(tuple(before))
        return tuple(found)

    def test_crane_past_another_one(self):
        paths = [(0, 2), (1, 1), (2, 0), (1, 1), (1, 2)]
        self.same(uncross(paths), ((0, 2), (1, 1), (0, 2), (1, 1), (1, 2)))
        self.same(ranks(paths), ((0, 1), (0, 1), (1, 0), (1, 0), (0, 1)))

    def test_cranes_that_exchange_places(self):
        self.same(uncross([(0, 1), (1, 0)]), ((0, 1), (0, 1)))
        self.same(ranks([(0, 1), (1, 0), (1, 1)]), ((0, 1), (1, 0), (1, 0)))

    def test_one_position(self):
        self.same(ranks([(5, 5, 5), (4, 5, 6), (5, 5, 5)]), ((0, 1, 2),) * 3)
        self.same(ranks([(6, 5, 4), (5, 5, 5)]), ((2, 1, 0), (2, 1, 0)))

    def test_one_row(self):
        self.same(uncross([[3, 1, 2]]), ((1, 2, 3),))
        self.same(ranks([[3, 1, 2]]), ((2, 0, 1),))
        self.same(ranks([[3]]), ((0,),))

    def test_not_stepwise(self):
        for call in (uncross, ranks):
            self.refused(NotStepwise, call, [(0, 5), (1, 4), (3, 4), (9, 9)], told={"minute": 2})
            self.refused(NotStepwise, call, [(5,), (3,)], told={"minute": 1})
            self.refused(BadPaths, call, [(0,), (2,), (201,)], told={"minute": 2})
            self.refused(BadPaths, call, [(0,)] + [(2,)] * 2500, told={"minute": None})

    def test_random_paths(self):
        chance = random.Random(2)
        for _ in range(300):
            paths = some_paths(chance, chance.randint(1, 6), chance.randint(1, 8))
            self.same(ranks(paths), self.told_ranks(paths))
            found = uncross(paths)
            self.same(found, tuple(tuple(sorted(row)) for row in paths))
            self.assertTrue(all(abs(a - b) <= 1 for one, two in zip(found, found[1:]) for a, b in zip(one, two)))


class RouteTest(Case):
    """Rows through formations."""

    def test_example(self):
        self.same(route([(0, 10), (3, 12)], 2), ((0, 10), (1, 11), (2, 12), (3, 12)))

    def test_one_formation(self):
        self.same(route([[7, 9]], 2), ((7, 9),))
        self.same(route([(7,), (7,), (7,)], 12), ((7,),))

    def test_waiting_until_all_are_there(self):
        self.same(route([(4, 10), (2, 10), (2, 9), (3, 9)], 2),
                  ((4, 10), (3, 10), (2, 10), (2, 9), (3, 9)))
        self.same(route([(5, 8), (5, 9), (8, 11)], 3), ((5, 8), (5, 9), (6, 10), (7, 11), (8, 11)))

    def test_one_crane_and_six(self):
        self.same(len(route([(0,), (200,), (0,), (200,), (0,)], 1)), 801)
        rows = route([(0, 12, 24, 36, 48, 60), (140, 152, 164, 176, 188, 200)], 12)
        self.same(rows, tuple(tuple(k + 12 * crane for crane in range(6)) for k in range(141)))

    def test_wrong_formations(self):
        for formations, number in (([], None), ([(1,)] * 6, None), ([()], None), ([(1,) * 7], None),
                                   ([(1, 5), (1,)], 1), ([(1, 5), (1, 201)], 1), ([(-1,)], 0)):
            self.refused(BadPaths, route, formations, 3, told={"minute": number})
        self.same(len(route([(1,), (2,), (3,), (4,), (5,)], 1)), 5)

    def test_too_close(self):
        self.refused(TooClose, route, [(0, 3), (0, 4), (0, 3), (0, 2)], 4, told={"number": 0})
        self.refused(TooClose, route, [(0, 4), (5, 9), (7, 10), (9, 9)], 4, told={"number": 2})
        self.refused(TooClose, route, [(5, 4), (4, 5)], 1, told={"number": 0})
        self.refused(BadPaths, route, [(0, 3), (0, 201)], 4, told={"minute": 1})
        self.same(route([(0, 4)], 4), ((0, 4),))

    def test_random_formations(self):
        chance = random.Random(3)
        for _ in range(200):
            cranes, gap = chance.randint(1, 4), chance.randint(1, 3)
            formations = [[position + gap * crane for crane, position in
                           enumerate(sorted(chance.randint(0, 20) for _ in range(cranes)))]
                          for _ in range(chance.randint(1, 5))]
            rows = route(formations, gap)
            self.same(first_violation(rows, gap), None)
            at = 0
            for first, second in itertools.pairwise(formations):
                self.same(rows[at], tuple(first))
                at += max(abs(a - b) for a, b in zip(first, second))
            self.same(rows[at:], (tuple(formations[-1]),))


class Yardstick:
    """A sweep by the words of [I3]."""

    def __init__(self, loads, cuts, gap):
        self.gap, self.n, self.k = gap, len(loads), len(cuts) + 1
        self.left = {self.k * gap + bay: load for bay, load in enumerate(loads)}
        self.owner = {self.k * gap + bay: sum(cut <= bay for cut in cuts) for bay in range(self.n)}
        self.cranes = [crane * gap for crane in range(self.k)]
        self.rows, self.done = [tuple(self.cranes)], {at: 0 for at in self.left}
        while self.cranes != [self.k * gap + self.n + crane * gap for crane in range(self.k)]:
            self.minute()

    def minute(self):
        for crane in reversed(range(self.k)):
            at = self.cranes[crane]
            if at == self.k * self.gap + self.n + crane * self.gap:
                continue
            if self.owner.get(at) == crane and self.left[at] > 0:
                self.left[at] -= 1
                if self.left[at] == 0:
                    self.done[at] = len(self.rows)
                continue
            if crane < self.k - 1 and self.cranes[crane + 1] - (at + 1) < self.gap:
                continue
            self.cranes[crane] += 1
        self.rows.append(tuple(self.cranes))

    def answer(self):
        return tuple(self.rows), tuple(self.done[at] for at in sorted(self.done))


class SweepTest(Case):
    """[I2], [I3]: sweeps."""

    def test_one_crane(self):
        self.same(sweep([2, 0, 1], [], 1), (((0,), (1,), (1,), (1,), (2,), (3,), (3,), (4,)), (3, 0, 6)))

    def test_no_loads(self):
        self.same(sweep([], [], 3), (((0,), (1,), (2,), (3,)), ()))
        self.same(sweep([], [0], 1), (((0, 1), (1, 2), (2, 3)), ()))
        self.same(sweep([0], [], 1), (((0,), (1,), (2,)), (0,)))

    def test_two_cranes(self):
        self.same(sweep([1, 2], [1], 1),
                  (((0, 1), (1, 2), (2, 3), (2, 3), (2, 3), (3, 4), (4, 5)), (3, 4)))

    def test_equal_cuts_and_cuts_at_the_ends(self):
        for cuts in ([0], [2], [4], [0, 0], [4, 4], [2, 2], [0, 4], [1, 1, 1, 3, 3], [0, 0, 0, 0, 0], [4] * 5):
            for gap in (1, 2, 12):
                self.same(sweep([3, 0, 1, 2], cuts, gap), Yardstick([3, 0, 1, 2], cuts, gap).answer())

    def test_greatest_sweep(self):
        rows, done = sweep([9] * 50, [10, 20, 30, 40, 45], 12)
        self.same((rows, done), Yardstick([9] * 50, [10, 20, 30, 40, 45], 12).answer())
        self.same(rows[-1], tuple(122 + 12 * crane for crane in range(6)))

    def test_wrong_loads(self):
        for loads in ([0] * 51, [10], [1, -1], [10] * 51):
            self.refused(BadSweep, sweep, loads, [], 1, told={"reason": "loads"})
            self.refused(BadSweep, sweep, loads, [99], 1, told={"reason": "loads"})
        self.same(len(sweep([0] * 50, [], 1)[1]), 50)
        self.same(sweep([9], [], 1)[1], (10,))

    def test_wrong_cuts(self):
        for cuts in ([-1], [4], [2, 1], [0] * 6, [1, 2, 4], [-1, 2], [3, 3, 2]):
            self.refused(BadSweep, sweep, [1, 2, 3], cuts, 1, told={"reason": "cuts"})
        self.refused(BadSweep, sweep, [], [1], 1, told={"reason": "cuts"})

    def test_random_sweeps(self):
        chance = random.Random(4)
        for _ in range(400):
            loads = [chance.choice((0, 1, 2, 9)) for _ in range(chance.randint(0, 8))]
            cuts = sorted(chance.randint(0, len(loads)) for _ in range(chance.randint(0, 5)))
            gap = chance.randint(1, 4)
            rows, done = sweep(loads, cuts, gap)
            self.same((rows, done), Yardstick(loads, cuts, gap).answer())
            self.same(first_violation(rows, gap), None)

    def test_no_crane_can_be_farther_right(self):
        chance = random.Random(5)
        for _ in range(60):
            loads = [chance.choice((0, 1, 2)) for _ in range(chance.randint(0, 3))]
            cuts = sorted(chance.randint(0, len(loads)) for _ in range(chance.randint(0, 1)))
            gap = chance.randint(1, 2)
            rows = sweep(loads, cuts, gap)[0]
            best = self.farthest(loads, cuts, gap, len(rows))
            self.same([list(row) for row in rows], best)

    def farthest(self, loads, cuts, gap, many):
        """By all rows that are allowed: how far right each crane can be at each minute."""
        cranes = len(cuts) + 1
        origin, ends = cranes * gap, [cranes * gap + len(loads) + crane * gap for crane in range(cranes)]
        bounds = [0, *cuts, len(loads)]

        def moves(crane, state):
            at, stayed = state
            bay = at - origin
            yield at, stayed + 1
            own = bounds[crane] <= bay < bounds[crane + 1]
            if at < ends[crane] and not (own and stayed < loads[bay]):
                yield at + 1, 0
        states = {tuple((crane * gap, 0) for crane in range(cranes))}
        found = []
        for _ in range(many):
            found.append([max(state[crane][0] for state in states) for crane in range(cranes)])
            states = {after for state in states
                      for after in itertools.product(*[moves(crane, state[crane]) for crane in range(cranes)])
                      if all(b[0] - a[0] >= gap for a, b in itertools.pairwise(after))}
            states = {tuple((at, min(stayed, 9)) for at, stayed in state) for state in states}
        return found
