"""[F1], [F2] and quaybest.voyages."""

import random

from quaybest.stowage import simulated, stacks_after
from quaybest.voyages import BadStack, StackFull, TooManyBoxes, Voyage, VoyageOver
from support import Case
from test_stowage import Ship


def sailed(voyage, ports):
    for _ in range(ports):
        voyage.sail()
    return voyage


class LoadTest(Case):
    """Boxes that are loaded."""

    def test_new_voyage(self):
        voyage = Voyage(3, 2)
        self.same((voyage.port, voyage.height), (0, 2))
        self.same(voyage.stacks(), ((), (), ()))
        self.same(voyage.lift_counts(), ())

    def test_order_of_loading(self):
        voyage = Voyage(3, 9)
        loads = [[1, 3], [0, 5], [0, 3], [1, 7], [0, 5]]
        self.same(voyage.load(loads),
                  ((0, "load", 1), (0, "load", 4), (0, "load", 2), (0, "load", 3), (0, "load", 0)))
        self.same(loads, [[1, 3], [0, 5], [0, 3], [1, 7], [0, 5]])
        self.same(voyage.stacks(), ((1, 4, 2), (3, 0), ()))

    def test_on_top_of_what_was_loaded_in_this_port(self):
        voyage = Voyage(1, 9)
        self.same(voyage.load([(0, 3)]), ((0, "load", 0),))
        self.same(voyage.load([(0, 2), (0, 9)]), ((0, "load", 2), (0, "load", 1)))
        self.same(voyage.stacks(), ((0, 2, 1),))

    def test_nothing_to_load(self):
        voyage = Voyage(1, 1)
        self.same(voyage.load([]), ())
        self.same(voyage.load(()), ())
        self.same(voyage.stacks(), ((),))

    def test_wrong_stacks_and_ports(self):
        voyage = sailed(Voyage(2, 9), 4)
        for wrong in ((2, 5), (-1, 5), (0, 4), (0, 3), (1, 0), (0, 12), (0, -1)):
            self.refused(BadStack, voyage.load, [(0, 5), (1, 11), wrong, (7, 7)], told={"box": 2})
        self.refused(BadStack, voyage.load, [(2, 5)], told={"box": 0})
        self.same(voyage.stacks(), ((), ()))
        self.same(voyage.load([(1, 11), (0, 5)]), ((4, "load", 1), (4, "load", 0)))

    def test_sixty_boxes(self):
        voyage = Voyage(2, 60)
        voyage.load([(0, 1)] * 59)
        self.refused(TooManyBoxes, voyage.load, [(0, 1)] * 2)
        self.same(voyage.load([(1, 1)]), ((0, "load", 59),))
        self.refused(TooManyBoxes, voyage.load, [(1, 1)])
        self.same(voyage.load([]), ())
        self.same(voyage.sail()[-1], (1, "discharge", 59))
        # Boxes that are discharged count, too: there would be more than 60 in all.
        self.refused(TooManyBoxes, voyage.load, [(1, 2)])

    def test_full_stacks(self):
        voyage = Voyage(3, 2)
        voyage.load([(1, 2)])
        self.refused(StackFull, voyage.load, [(2, 5)] * 3 + [(1, 5)] * 2, told={"stack": 1})
        self.refused(StackFull, voyage.load, [(2, 5)] * 3, told={"stack": 2})
        self.same(voyage.stacks(), ((), (0,), ()))
        self.same(voyage.load([(1, 1), (2, 5), (2, 6)]), ((0, "load", 1), (0, "load", 3), (0, "load", 2)))
        self.refused(StackFull, voyage.load, [(1, 2)], told={"stack": 1})
        voyage.sail()
        self.same(voyage.load([(1, 2)]), ((1, "load", 4),))

    def test_order_of_the_errors(self):
        voyage = Voyage(2, 2)
        self.refused(BadStack, voyage.load, [(0, 1)] * 61 + [(5, 5)], told={"box": 61})
        self.refused(TooManyBoxes, voyage.load, [(0, 1)] * 61)
        self.refused(StackFull, voyage.load, [(0, 1)] * 60, told={"stack": 0})
        sailed(voyage, 11)
        self.refused(VoyageOver, voyage.load, [(9, 0)])
        self.refused(VoyageOver, voyage.load, [(0, 11)] * 61)
        self.refused(VoyageOver, voyage.load, [])

    def test_height_of_no_box(self):
        voyage = Voyage(1, 0)
        self.refused(StackFull, voyage.load, [(0, 1)], told={"stack": 0})
        self.same(voyage.load([]), ())


class SailTest(Case):
    """Ports, and the stacks that are opened there."""

    def test_last_port(self):
        voyage = Voyage(1, 1)
        voyage.load([(0, 11)])
        for port in range(1, 11):
            self.same(voyage.sail(), ())
            self.same(voyage.port, port)
        self.same(voyage.sail(), ((11, "discharge", 0),))
        self.refused(VoyageOver, voyage.sail)
        self.same(voyage.port, 11)
        self.same(voyage.stacks(), ((),))

    def test_boxes_are_lifted_and_counted(self):
        voyage = Voyage(2, 9)
        voyage.load([(0, 2), (1, 5)])
        voyage.sail()
        voyage.load([(0, 4), (0, 3)])
        self.same(voyage.lift_counts(), (0, 0, 0, 0))
        self.same(voyage.sail(), ((2, "lift", 3), (2, "lift", 2), (2, "discharge", 0), (2, "restow", 2),
                                  (2, "restow", 3)))
        self.same(voyage.lift_counts(), (0, 0, 1, 1))
        self.same(voyage.stacks(), ((2, 3), (1,)))
        voyage.load([(0, 11)])
        self.same(voyage.sail(), ((3, "lift", 4), (3, "discharge", 3), (3, "restow", 4)))
        self.same(voyage.sail(), ((4, "lift", 4), (4, "discharge", 2), (4, "restow", 4)))
        self.same(voyage.lift_counts(), (0, 0, 1, 1, 2))

    def test_stack_that_empties_and_is_used_again(self):
        voyage = Voyage(1, 1)
        for box in range(11):
            self.same(voyage.load([(0, box + 1)]), ((box, "load", box),))
            self.same(voyage.sail(), ((box + 1, "discharge", box),))
            self.same(voyage.stacks(), ((),))


class RandomTest(Case):
    """Whole voyages."""

    def test_voyages_as_they_are_simulated(self):
        chance = random.Random(1)
        for _ in range(150):
            boxes = sorted([(start, chance.randint(start + 1, 11)) for start in
                            [chance.randint(0, 10) for _ in range(chance.randint(1, 20))]])
            plan = [chance.randrange(3) for _ in boxes]
            voyage = Voyage(max(plan) + 1, 60)
            events = []
            for port in range(12):
                if port:
                    events += voyage.sail()
                if port < 11:
                    events += voyage.load([(plan[k], boxes[k][1]) for k in range(len(boxes)) if boxes[k][0] == port])
                self.same(voyage.stacks(), stacks_after(boxes, plan, port))
            self.same(tuple(events), simulated(boxes, plan))
            self.same(voyage.lift_counts(), self.lifts(events, boxes))

    def lifts(self, events, boxes):
        return tuple(sum(word == "lift" and box == number for _, word, box in events) for number in range(len(boxes)))

    def test_voyages_by_the_words(self):
        chance = random.Random(2)
        for _ in range(150):
            stacks, height = chance.randint(1, 4), chance.randint(1, 6)
            voyage = Voyage(stacks, height)
            ship = Ship([], [])
            ship.stacks = [[] for _ in range(stacks)]
            while voyage.port < 11:
                for _ in range(chance.randint(0, 3)):
                    self.one_load(chance, voyage, ship)
                ship.events = []
                found = voyage.sail()
                ship.open_stacks(voyage.port)
                self.same(found, tuple(ship.events))
                self.same(voyage.stacks(), tuple(map(tuple, ship.stacks)))

    def one_load(self, chance, voyage, ship):
        loads = [(chance.randrange(len(ship.stacks)), chance.randint(voyage.port + 1, 11))
                 for _ in range(chance.randint(0, 4))]
        heights = [len(stack) + sum(at == number for at, _ in loads) for number, stack in enumerate(ship.stacks)]
        if len(ship.boxes) + len(loads) > 60:
            self.refused(TooManyBoxes, voyage.load, loads)
        elif max(heights) > voyage.height:
            full = next(number for number, height in enumerate(heights) if height > voyage.height)
            self.refused(StackFull, voyage.load, loads, told={"stack": full})
        else:
            ship.events = []
            # Boxes of earlier calls in this port stand below, so only the new ones are loaded from it.
            ship.boxes = [(-1, stop) for _, stop in ship.boxes] + [(voyage.port, stop) for _, stop in loads]
            ship.plan = ship.plan + [stack for stack, _ in loads]
            ship.load(voyage.port)
            self.same(voyage.load(loads), tuple(ship.events))
        self.same(voyage.stacks(), tuple(map(tuple, ship.stacks)))
