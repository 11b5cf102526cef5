"""[G6] and quaybest.deck."""

import random

from quaybest.deck import (Deck, NoBox, NoReach, NoStack, StackEmpty, StackFull, TooFewRods, TooManyRods, WouldNotHold)
from support import Case
from test_lashing import gear, told_holds, told_min_rods


def state(deck):
    return deck.stacks(), deck.spare, deck.acceleration


def loaded(kit, acceleration, weights, spare=300):
    """A deck of one stack with boxes of these weights."""
    deck = Deck(kit, acceleration, 1, spare)
    for weight in weights:
        deck.add(0, weight)
    return deck


class BoxesTest(Case):
    """Boxes that are put on and taken off."""

    def test_new_deck(self):
        kit = gear()
        deck = Deck(kit, 100, 3, 7)
        self.assertIs(deck.gear, kit)
        self.same(state(deck), ((((), ()),) * 3, 7, 100))
        self.same(deck.max_acceleration(), 1000)
        self.same(Deck(kit, 100, 1, 0).stacks(), (((), ()),))

    def test_add(self):
        deck = Deck(gear(), 100, 2, 7)
        self.same(deck.add(1, 5), 0)
        self.same(deck.add(1, 6), 1)
        self.same(deck.add(0, 400), 0)
        self.same(deck.stacks(), (((400,), (0,)), ((5, 6), (0, 0))))

    def test_nine_boxes(self):
        deck = loaded(gear(weight=9), 100, [1] * 8)
        self.same(deck.add(0, 1), 8)
        self.refused(StackFull, deck.add, 0, 1)
        self.refused(StackFull, deck.add, 0, 400)
        self.same(deck.stacks(), (((1,) * 9, (0,) * 9),))

    def test_what_would_not_hold(self):
        for kit, weight in ((gear(joint=1000), 6), (gear(weight=10), 6), (gear(post=5), 6)):
            deck = Deck(kit, 100, 2, 7)
            deck.add(1, 5)
            self.refused(WouldNotHold, deck.add, 1, weight, told={"stack": 1})
            self.same(deck.stacks(), (((), ()), ((5,), (0,))))
            self.same(deck.add(1, weight - 1), 1)

    def test_drop(self):
        deck = loaded(gear(), 100, [5, 6, 7], spare=5)
        deck.lash(0, 2, 3)
        deck.lash(0, 1, 2)
        self.same(deck.spare, 0)
        self.same(deck.drop(0), 7)
        self.same(state(deck), ((((5, 6), (0, 2)),), 3, 100))
        self.same(deck.drop(0), 6)
        self.same(deck.drop(0), 5)
        self.same(state(deck), ((((), ()),), 5, 100))
        self.refused(StackEmpty, deck.drop, 0)

    def test_drop_that_would_not_hold(self):
        deck = loaded(gear(joint=500, rod=1000), 100, [3], spare=4)
        deck.lash(0, 0, 1)
        deck.add(0, 3)
        deck.add(0, 2)
        deck.lash(0, 2, 1)
        deck.unlash(0, 0, 1)
        # The rod at tier 2 goes with its box, and then nothing supports joint 0.
        self.refused(WouldNotHold, deck.drop, 0, told={"stack": 0})
        self.same(state(deck), ((((3, 3, 2), (0, 0, 1)),), 3, 100))
        deck.lash(0, 1, 1)
        self.same(deck.drop(0), 2)

    def test_wrong_stacks(self):
        deck = Deck(gear(), 100, 2, 7)
        for stack in (-1, 2):
            for call, args in ((deck.add, (1,)), (deck.drop, ()), (deck.lash, (0, 1)), (deck.unlash, (0, 1)),
                               (deck.relash, ())):
                self.refused(NoStack, call, stack, *args)


class RodsTest(Case):
    """Rods that are attached and taken off."""

    def test_lash(self):
        deck = loaded(gear(rods=3), 100, [5, 6], spare=5)
        self.same(deck.lash(0, 1, 1), 4)
        self.same(deck.lash(0, 1, 2), 2)
        self.same(deck.lash(0, 0, 2), 0)
        self.same(state(deck), ((((5, 6), (2, 3)),), 0, 100))

    def test_errors_of_lash(self):
        deck = loaded(gear(rods=3, reach=1), 100, [5, 6], spare=2)
        for tier in (-1, 2, 9):
            self.refused(NoBox, deck.lash, 0, tier, 4)
        self.refused(NoReach, deck.lash, 0, 1, 4)
        self.refused(NoReach, deck.lash, 0, 1, 1)
        self.refused(TooManyRods, deck.lash, 0, 0, 4)
        self.refused(TooFewRods, deck.lash, 0, 0, 3)
        self.same(deck.lash(0, 0, 2), 0)
        self.refused(TooManyRods, deck.lash, 0, 0, 2)
        self.refused(TooFewRods, deck.lash, 0, 0, 1)
        self.same(state(deck), ((((5, 6), (2, 0)),), 0, 100))

    def test_no_spare_rods(self):
        deck = loaded(gear(), 100, [5], spare=0)
        self.refused(TooFewRods, deck.lash, 0, 0, 1)

    def test_reach(self):
        self.refused(NoReach, loaded(gear(reach=0), 1, [5]).lash, 0, 0, 1)
        deck = loaded(gear(reach=9), 1, [1] * 9, spare=300)
        self.same(deck.lash(0, 8, 4), 296)
        deck = loaded(gear(reach=8), 1, [1] * 9, spare=300)
        self.refused(NoReach, deck.lash, 0, 8, 1)
        self.same(deck.lash(0, 7, 4), 296)

    def test_unlash(self):
        deck = loaded(gear(), 100, [5, 6], spare=4)
        deck.lash(0, 1, 4)
        self.same(deck.unlash(0, 1, 1), 1)
        self.same(deck.unlash(0, 1, 3), 4)
        self.same(state(deck), ((((5, 6), (0, 0)),), 4, 100))

    def test_errors_of_unlash(self):
        deck = loaded(gear(joint=300, rod=100), 100, [3], spare=4)
        deck.lash(0, 0, 2)
        deck.add(0, 2)
        for tier in (-1, 2):
            self.refused(NoBox, deck.unlash, 0, tier, 1)
        self.refused(TooFewRods, deck.unlash, 0, 0, 3)
        self.refused(TooFewRods, deck.unlash, 0, 1, 1)
        self.refused(WouldNotHold, deck.unlash, 0, 0, 1, told={"stack": 0})
        self.same(state(deck), ((((3, 2), (2, 0)),), 2, 100))
        deck.drop(0)
        self.same(deck.unlash(0, 0, 2), 4)

    def test_relash(self):
        deck = loaded(gear(joint=800, rod=100), 50, [5, 5, 5], spare=12)
        for tier in (0, 1, 2):
            deck.lash(0, tier, 3)
        self.same(deck.relash(0), 9)
        self.same(state(deck), ((((5, 5, 5), (0, 0, 0)),), 12, 50))
        for tier in (0, 1, 2):
            deck.lash(0, tier, 3)
        deck.set_acceleration(100)
        self.same(deck.relash(0), 2)
        self.same(state(deck), ((((5, 5, 5), (0, 3, 4)),), 5, 100))
        self.same(deck.relash(0), 0)

    def test_relash_without_rods_that_are_spare(self):
        deck = loaded(gear(joint=800, rod=100), 50, [5, 5, 5], spare=7)
        deck.lash(0, 0, 3)
        deck.lash(0, 1, 4)
        deck.set_acceleration(80)
        self.same(deck.relash(0), 3)
        self.same(state(deck), ((((5, 5, 5), (0, 0, 4)),), 3, 80))

    def test_relash_of_no_boxes(self):
        deck = Deck(gear(), 100, 1, 3)
        self.same(deck.relash(0), 0)
        self.same(state(deck), ((((), ()),), 3, 100))


class AccelerationTest(Case):
    """The acceleration of the deck."""

    def test_set_acceleration(self):
        deck = Deck(gear(joint=1000), 0, 3, 0)
        deck.add(1, 20)
        deck.add(2, 10)
        self.same(deck.set_acceleration(50), 0)
        self.same(deck.set_acceleration(50), 50)
        self.refused(WouldNotHold, deck.set_acceleration, 51, told={"stack": 1})
        self.refused(WouldNotHold, deck.set_acceleration, 101, told={"stack": 1})
        self.same(deck.acceleration, 50)
        self.refused(WouldNotHold, deck.add, 2, 11, told={"stack": 2})
        self.same(deck.set_acceleration(0), 50)

    def test_first_stack_that_would_not_hold(self):
        deck = Deck(gear(joint=1000), 0, 3, 0)
        deck.add(1, 5)
        deck.add(2, 20)
        self.refused(WouldNotHold, deck.set_acceleration, 51, told={"stack": 2})
        self.refused(WouldNotHold, deck.set_acceleration, 201, told={"stack": 1})

    def test_max_acceleration(self):
        deck = Deck(gear(joint=1000, rod=500), 0, 2, 4)
        deck.add(0, 3)
        self.same(deck.max_acceleration(), 333)
        deck.lash(0, 0, 1)
        self.same(deck.max_acceleration(), 500)
        deck.add(1, 10)
        self.same(deck.max_acceleration(), 100)
        deck.lash(1, 0, 3)
        self.same(deck.max_acceleration(), 250)
        self.same(deck.set_acceleration(250), 0)
        self.refused(WouldNotHold, deck.set_acceleration, 251, told={"stack": 1})


class RandomTest(Case):
    """Many calls, by the words."""

    def test_random_calls(self):
        chance = random.Random(1)
        seen = {}
        for _ in range(150):
            kit = gear(joint=chance.choice((500, 2000)), rod=chance.choice((300, 1000)), reach=chance.randint(0, 5),
                       rods=chance.randint(0, 4), weight=chance.choice((20, 3600)), post=chance.choice((12, 3600)))
            self.kit, self.acceleration, self.spare = kit, chance.choice((0, 100, 200)), chance.randint(0, 9)
            self.rows = [([], []) for _ in range(chance.randint(1, 3))]
            deck = Deck(kit, self.acceleration, len(self.rows), self.spare)
            for _ in range(40):
                word = self.one_call(chance, deck)
                seen[word] = seen.get(word, 0) + 1
                self.same(state(deck), (tuple((tuple(weights), tuple(rods)) for weights, rods in self.rows),
                                        self.spare, self.acceleration))
        self.assertGreater(len(seen), 17)

    def one_call(self, chance, deck):
        word = chance.choice(("add", "add", "add", "drop", "lash", "lash", "unlash", "relash", "set_acceleration"))
        stack, tier, count = chance.randint(-1, len(self.rows)), chance.randint(-1, 5), chance.randint(1, 4)
        weight, acceleration = chance.randint(1, 9), chance.choice((0, 50, 100, 150, 200, 300))
        args = {"add": (stack, weight), "drop": (stack,), "lash": (stack, tier, count), "unlash": (stack, tier, count),
                "relash": (stack,), "set_acceleration": (acceleration,)}[word]
        wanted = getattr(self, "told_" + word)(*args)
        if isinstance(wanted, tuple):
            error, told = wanted
            self.refused(error, getattr(deck, word), *args, told=told)
            return word, error.__name__
        self.same(getattr(deck, word)(*args), wanted)
        return word, None

    def put(self, stack, weights, rods, answer):
        if not told_holds(weights, self.kit, rods, self.acceleration):
            return WouldNotHold, {"stack": stack}
        self.spare += sum(self.rows[stack][1]) - sum(rods)
        self.rows[stack] = (weights, rods)
        return self.spare if answer is None else answer

    def told_add(self, stack, weight):
        if not 0 <= stack < len(self.rows):
            return NoStack, {}
        weights, rods = self.rows[stack]
        if len(weights) == 9:
            return StackFull, {}
        return self.put(stack, weights + [weight], rods + [0], len(weights))

    def told_drop(self, stack):
        if not 0 <= stack < len(self.rows):
            return NoStack, {}
        weights, rods = self.rows[stack]
        if not weights:
            return StackEmpty, {}
        return self.put(stack, weights[:-1], rods[:-1], weights[-1])

    def told_lash(self, stack, tier, count):
        if not 0 <= stack < len(self.rows):
            return NoStack, {}
        weights, rods = self.rows[stack]
        if not 0 <= tier < len(weights):
            return NoBox, {}
        if tier >= self.kit.reach:
            return NoReach, {}
        if rods[tier] + count > self.kit.rods:
            return TooManyRods, {}
        if count > self.spare:
            return TooFewRods, {}
        return self.put(stack, weights, rods[:tier] + [rods[tier] + count] + rods[tier + 1:], None)

    def told_unlash(self, stack, tier, count):
        if not 0 <= stack < len(self.rows):
            return NoStack, {}
        weights, rods = self.rows[stack]
        if not 0 <= tier < len(weights):
            return NoBox, {}
        if rods[tier] < count:
            return TooFewRods, {}
        return self.put(stack, weights, rods[:tier] + [rods[tier] - count] + rods[tier + 1:], None)

    def told_relash(self, stack):
        if not 0 <= stack < len(self.rows):
            return NoStack, {}
        weights, rods = self.rows[stack]
        if len(weights) > 4:
            fewest = list(deck_rods(weights, self.kit, self.acceleration))
        else:
            fewest = list(told_min_rods(weights, self.kit, self.acceleration))
        return self.put(stack, weights, fewest, sum(rods) - sum(fewest))

    def told_set_acceleration(self, acceleration):
        for stack, (weights, rods) in enumerate(self.rows):
            if not told_holds(weights, self.kit, rods, acceleration):
                return WouldNotHold, {"stack": stack}
        before, self.acceleration = self.acceleration, acceleration
        return before


def deck_rods(weights, kit, acceleration):
    """The rods of higher stacks, one after the other at the highest tier that takes one more, until the stack holds."""
    rods = [0] * len(weights)
    while not told_holds(weights, kit, rods, acceleration):
        tier = max(tier for tier in range(len(weights)) if tier < kit.reach and rods[tier] < kit.rods)
        rods[tier] += 1
    return rods
