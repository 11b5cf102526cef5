"""[G1], [G2], [G3], [G5] and quaybest.lashing."""

import itertools
import random

from quaybest.lashing import (BadGear, BadRods, BadStack, Gear, forces, max_acceleration, max_top_weight, min_rods,
                              violations)
from support import Case

NAMES = ("joint", "rod", "reach", "rods", "weight", "post")
LIMITS = {"joint": (0, 1000000), "rod": (1, 1000000), "reach": (0, 9), "rods": (0, 4), "weight": (0, 3600),
          "post": (0, 3600)}


def gear(**more):
    """Gear that holds anything, but for what is told."""
    return Gear(**dict({"joint": 1000000, "rod": 1000, "reach": 9, "rods": 4, "weight": 3600, "post": 3600}, **more))


def some_gear(chance):
    return gear(joint=chance.choice((0, 500, 2000, 5000)), rod=chance.choice((1, 300, 1000)), reach=chance.randint(0, 9),
                rods=chance.randint(0, 4), weight=chance.choice((0, 20, 3600)), post=chance.choice((0, 12, 3600)))


def some_stack(chance, most):
    return [chance.randint(1, 9) for _ in range(chance.randint(0, most))]


def some_rods(chance, stack, kit):
    return [chance.randint(0, kit.rods) if tier < kit.reach else 0 for tier in range(len(stack))]


def told_violations(stack, kit, rods, acceleration):
    """By the words of [G1] to [G3]."""
    pressed, broken = [], []
    for tier in range(len(stack)):
        above = on = held = 0
        for other in range(len(stack)):
            above += stack[other] if other > tier else 0
            on += stack[other] if other >= tier else 0
            held += rods[other] if other >= tier else 0
        if above > kit.post:
            pressed.append(tier)
        if acceleration * on > kit.joint + kit.rod * held:
            broken.append(tier)
    return sum(stack) > kit.weight, tuple(pressed), tuple(broken)


def told_holds(stack, kit, rods, acceleration):
    return told_violations(stack, kit, rods, acceleration) == (False, (), ())


def all_rods(stack, kit):
    return itertools.product(*[range(kit.rods + 1) if tier < kit.reach else (0,) for tier in range(len(stack))])


def told_min_rods(stack, kit, acceleration):
    found = [rods for rods in all_rods(stack, kit) if told_holds(stack, kit, rods, acceleration)]
    return min(found, key=lambda rods: (sum(rods), rods), default=None)


class GearTest(Case):
    """[G2]."""

    def test_attributes(self):
        kit = Gear(joint=1, rod=2, reach=3, rods=4, weight=5, post=6)
        self.same((kit.joint, kit.rod, kit.reach, kit.rods, kit.weight, kit.post), (1, 2, 3, 4, 5, 6))

    def test_limits(self):
        for name, (least, greatest) in LIMITS.items():
            for value in (least, greatest):
                self.same(getattr(gear(**{name: value}), name), value)
            for value in (least - 1, greatest + 1):
                self.refused(BadGear, gear, told={"name": name}, **{name: value})

    def test_first_wrong_name(self):
        for number, name in enumerate(NAMES):
            self.refused(BadGear, gear, told={"name": name}, **{other: -1 for other in NAMES[number:]})

    def test_arguments_by_keyword_alone(self):
        with self.assertRaises(TypeError):
            Gear(1, 2, 3, 4, 5, 6)


class ForcesTest(Case):
    """[G1]."""

    def test_example(self):
        self.same(forces([5, 4, 3], 100), (1200, 700, 300))

    def test_edges(self):
        self.same(forces([], 100), ())
        self.same(forces([400] * 9, 1000), tuple(range(3600000, 0, -400000)))
        self.same(forces([1, 400], 0), (0, 0))

    def test_wrong_stacks(self):
        self.refused(BadStack, forces, [1] * 10, 5, told={"number": None})
        self.refused(BadStack, forces, [0] * 10, 5, told={"number": None})
        self.refused(BadStack, forces, [1, 0, 401], 5, told={"number": 1})
        self.refused(BadStack, forces, [401], 5, told={"number": 0})
        self.refused(BadStack, forces, [400] * 8 + [-1], 5, told={"number": 8})


class ViolationsTest(Case):
    """[G3]."""

    def test_weight(self):
        self.same(violations([5, 4, 3], gear(weight=12), [0, 0, 0], 9), (False, (), ()))
        self.same(violations([5, 4, 3], gear(weight=11), [0, 0, 0], 9), (True, (), ()))

    def test_post(self):
        self.same(violations([5, 4, 3], gear(post=7), [0, 0, 0], 9), (False, (), ()))
        self.same(violations([5, 4, 3], gear(post=6), [0, 0, 0], 9), (False, (0,), ()))
        self.same(violations([5, 4, 3], gear(post=2), [0, 0, 0], 9), (False, (0, 1), ()))
        self.same(violations([5], gear(post=0), [0], 9), (False, (), ()))

    def test_joints(self):
        kit = gear(joint=300, rod=100)
        self.same(violations([5, 4, 3], kit, [0, 0, 0], 100), (False, (), (0, 1)))
        self.same(violations([5, 4, 3], kit, [0, 4, 0], 100), (False, (), (0,)))
        self.same(violations([5, 4, 3], kit, [4, 0, 0], 100), (False, (), (0, 1)))
        self.same(violations([5, 4, 3], kit, [4, 4, 0], 100), (False, (), (0,)))
        self.same(violations([5, 4, 3], kit, [1, 4, 4], 100), (False, (), ()))
        self.same(violations([5, 4, 3], kit, [0, 4, 4], 100), (False, (), (0,)))
        self.same(violations([5, 4, 3], gear(joint=299, rod=100), [1, 4, 4], 100), (False, (), (0,)))
        self.same(violations([5, 4, 3], gear(joint=299, rod=100), [4, 4, 0], 100), (False, (), (0, 1, 2)))

    def test_no_boxes(self):
        self.same(violations([], gear(weight=0, post=0, joint=0), [], 1000), (False, (), ()))

    def test_no_acceleration(self):
        self.same(violations([400] * 9, gear(joint=0), [0] * 9, 0), (False, (), ()))

    def test_reach(self):
        self.same(violations([1] * 9, gear(reach=9), [4] * 9, 1), (False, (), ()))
        self.refused(BadRods, violations, [1] * 9, gear(reach=8), [4] * 9, 1, told={"number": 8})
        self.refused(BadRods, violations, [1] * 2, gear(reach=0), [1, 0], 1, told={"number": 0})
        self.same(violations([1] * 2, gear(reach=0), [0, 0], 1), (False, (), ()))

    def test_random_stacks(self):
        chance = random.Random(1)
        found = {}
        for _ in range(1500):
            kit, stack = some_gear(chance), some_stack(chance, 9)
            rods, acceleration = some_rods(chance, stack, kit), chance.choice((0, 100, 300))
            wanted = told_violations(stack, kit, rods, acceleration)
            found[wanted] = True
            self.same(violations(stack, kit, rods, acceleration), wanted)
        self.assertGreater(len(found), 60)


class ErrorsTest(Case):
    """Stacks and rods that are wrong."""

    def calls(self):
        return [lambda stack, kit, rods: violations(stack, kit, rods, 5),
                lambda stack, kit, rods: max_acceleration(stack, kit, rods),
                lambda stack, kit, rods: max_top_weight(stack, kit, rods, 5)]

    def test_stack_first(self):
        for call in self.calls():
            self.refused(BadStack, call, [1] * 10, gear(), [9] * 2, told={"number": None})
            self.refused(BadStack, call, [1, 401], gear(), [9, 0, 0], told={"number": 1})

    def test_rods(self):
        for call in self.calls():
            for rods in ([], [9], [9, 0, 0]):
                self.refused(BadRods, call, [1, 1], gear(), rods, told={"number": None})
            self.refused(BadRods, call, [1, 1], gear(), [0, -1], told={"number": 1})
            self.refused(BadRods, call, [1, 1], gear(), [5, -1], told={"number": 0})
            self.refused(BadRods, call, [1, 1], gear(rods=0), [0, 1], told={"number": 1})
            self.refused(BadRods, call, [1, 1], gear(reach=1), [4, 1], told={"number": 1})
            self.refused(BadRods, call, [1] * 9, gear(), [0] * 10, told={"number": None})

    def test_stack_of_nine_is_looked_at(self):
        self.refused(BadRods, max_top_weight, [1] * 9, gear(rods=1), [0] * 8 + [2], 5, told={"number": 8})
        self.refused(BadStack, max_top_weight, [1] * 8 + [0], gear(), [0] * 9, 5, told={"number": 8})

    def test_min_rods(self):
        self.refused(BadStack, min_rods, [1] * 10, gear(), 5, told={"number": None})
        self.refused(BadStack, min_rods, [1, 2, -3], gear(), 5, told={"number": 2})


class MinRodsTest(Case):
    """The fewest rods, and the first of several."""

    def test_no_rods_are_needed(self):
        self.same(min_rods([], gear(joint=0), 1000), ())
        self.same(min_rods([5, 5], gear(joint=1000), 100), (0, 0))
        self.same(min_rods([5, 5], gear(joint=0), 0), (0, 0))

    def test_rods_stand_as_high_as_they_can(self):
        self.same(min_rods([5, 5], gear(joint=999, rod=1), 100), (0, 1))
        self.same(min_rods([5, 5, 5], gear(joint=800, rod=100), 100), (0, 3, 4))
        self.same(min_rods([5, 5, 5], gear(joint=800, rod=100, reach=2), 100), (3, 4, 0))
        self.same(min_rods([5, 5, 5], gear(joint=800, rod=100, reach=1), 100), None)

    def test_none(self):
        self.same(min_rods([5, 5], gear(joint=999, reach=0), 100), None)
        self.same(min_rods([5, 5], gear(joint=999, rods=0), 100), None)
        self.same(min_rods([5, 5], gear(weight=9), 100), None)
        self.same(min_rods([5, 5], gear(post=4), 100), None)
        self.same(min_rods([5, 5], gear(weight=10, post=5), 100), (0, 0))

    def test_upper_joint_that_no_rod_reaches(self):
        self.same(min_rods([1, 1, 9], gear(joint=500, rod=1000, reach=2), 100), None)
        self.same(min_rods([1, 1, 9], gear(joint=900, rod=1000, reach=2), 100), (0, 1, 0))

    def test_nine_boxes(self):
        kit = gear(joint=0, rod=1000, rods=4)
        self.same(min_rods([4] * 9, kit, 1000), (4,) * 9)
        self.same(min_rods([5] + [4] * 8, kit, 1000), None)

    def test_by_all_rods(self):
        chance = random.Random(2)
        found = {}
        for _ in range(700):
            kit, stack, acceleration = some_gear(chance), some_stack(chance, 4), chance.choice((0, 100, 300, 450))
            wanted = told_min_rods(stack, kit, acceleration)
            found[wanted] = True
            self.same(min_rods(stack, kit, acceleration), wanted)
        self.assertGreater(len(found), 30)


class GreatestTest(Case):
    """The greatest acceleration, and the greatest weight on top."""

    def test_accelerations(self):
        self.same(max_acceleration([5, 4, 3], gear(joint=1200), [0, 0, 0]), 100)
        self.same(max_acceleration([5, 4, 3], gear(joint=1199), [0, 0, 0]), 99)
        self.same(max_acceleration([5, 4, 3], gear(joint=1211), [0, 0, 0]), 100)
        self.same(max_acceleration([5, 4, 3], gear(joint=0, rod=1200), [1, 0, 0]), 0)
        self.same(max_acceleration([5, 4, 3], gear(joint=0, rod=1200), [0, 0, 1]), 100)
        self.same(max_acceleration([], gear(joint=0), []), 1000)
        self.same(max_acceleration([1], gear(joint=1000), [0]), 1000)
        self.same(max_acceleration([1], gear(joint=999), [0]), 999)
        self.same(max_acceleration([400], gear(joint=399), [0]), 0)

    def test_no_acceleration(self):
        self.same(max_acceleration([5, 4], gear(weight=8), [0, 0]), None)
        self.same(max_acceleration([5, 4], gear(post=3), [0, 0]), None)
        self.same(max_acceleration([5, 4], gear(weight=9, post=4, joint=0), [0, 0]), 0)

    def test_top_weights(self):
        self.same(max_top_weight([5, 4], gear(), [0, 0], 100), 400)
        self.same(max_top_weight([], gear(), [], 1000), 400)
        self.same(max_top_weight([], gear(joint=3000), [], 1000), 3)
        self.same(max_top_weight([5, 4], gear(weight=20), [0, 0], 100), 11)
        self.same(max_top_weight([5, 4], gear(post=20), [0, 0], 100), 16)
        self.same(max_top_weight([5, 4], gear(joint=1000), [0, 0], 100), 1)
        self.same(max_top_weight([5, 4], gear(joint=999), [0, 0], 100), None)
        self.same(max_top_weight([5, 4], gear(weight=9), [0, 0], 0), None)
        self.same(max_top_weight([400] * 8, gear(weight=3600), [0] * 8, 0), 400)
        self.same(max_top_weight([1] * 9, gear(), [0] * 9, 0), None)

    def test_no_rods_at_the_top(self):
        self.same(max_top_weight([5], gear(joint=300, rod=1000), [4], 100), 3)

    def test_by_all_numbers(self):
        chance = random.Random(3)
        found = [{}, {}]
        for _ in range(150):
            kit, stack = some_gear(chance), some_stack(chance, chance.choice((3, 9)))
            rods, acceleration = some_rods(chance, stack, kit), chance.choice((0, 100, 300))
            wanted = max([number for number in range(1001) if told_holds(stack, kit, rods, number)], default=None)
            self.same(max_acceleration(stack, kit, rods), wanted)
            found[0][wanted] = True
            fitting = [weight for weight in range(1, 401) if len(stack) < 9
                       and told_holds([*stack, weight], kit, [*rods, 0], acceleration)]
            self.same(max_top_weight(stack, kit, rods, acceleration), max(fitting, default=None))
            found[1][max(fitting, default=None)] = True
        self.assertGreater(min(map(len, found)), 10)
