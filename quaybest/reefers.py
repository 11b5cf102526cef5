"""Refrigerated boxes on few plugs: plans, cycles, and how long they stay within their ranges."""

from itertools import combinations

from quaybest.errors import QuayError
from quaybest.fractions import added, common_divisor, fraction


class TooManyStates(QuayError):
    """The boxes have more states together than are looked through."""


class NoBox(QuayError):
    """No box has this number."""


class NotSo(QuayError):
    """A box is plugged in already, or it is not."""


class NoPlug(QuayError):
    """All plugs are in use."""


class LeavesRange(QuayError):
    """A box would be out of range."""

    def __init__(self, box):
        self.box = box


def check_states(boxes, most):
    """Raise TooManyStates if boxes have more than so many states together."""
    states = 1
    for box in boxes:
        states = states * (box[3] - box[2] + 1)
    if states > most:
        raise TooManyStates("the boxes have too many states")


def temperatures_of(boxes):
    """The temperatures that boxes have."""
    return tuple([box[4] for box in boxes])


def with_temperatures(boxes, temperatures):
    """The boxes with other temperatures."""
    return tuple([(*box[:4], temperature) for box, temperature in zip(boxes, temperatures)])


def after_hour(boxes, temperatures, choice):
    """The temperatures of boxes an hour later, with a choice."""
    return tuple([temperature - box[1] if number in choice else temperature + box[0]
                  for number, (box, temperature) in enumerate(zip(boxes, temperatures))])


def out_of_range(boxes, temperatures):
    """The numbers of the boxes that are out of range at these temperatures, ascending."""
    return tuple([number for number, (box, temperature) in enumerate(zip(boxes, temperatures))
                  if temperature < box[2] or temperature > box[3]])


def advance(boxes, choice):
    """The temperatures after an hour with a choice, and the boxes that are out of range then."""
    temperatures = after_hour(boxes, temperatures_of(boxes), choice)
    return temperatures, out_of_range(boxes, temperatures)


def simulate(boxes, plan):
    """Go through a plan until a box is out of range: the hours, the temperatures then, and the boxes out of range."""
    hours = 0
    temperatures = temperatures_of(boxes)
    out = ()
    while hours < len(plan) and not out:
        temperatures = after_hour(boxes, temperatures, plan[hours])
        out = out_of_range(boxes, temperatures)
        hours += 1
    return hours, temperatures, out


def plug_share(boxes):
    """The share of plugs that the boxes need."""
    total = fraction(0)
    for box in boxes:
        total = added(total, fraction(box[0], box[0] + box[1]))
    return total


def cycle_divisor(boxes):
    """The least number from 1 on that makes each box's warm, so many times, a multiple of its warm + cool."""
    least = 1
    for box in boxes:
        needed = (box[0] + box[1]) // common_divisor(box[0], box[1])
        least = least * needed // common_divisor(least, needed)
    return least


def choices_of(many, plugs):
    """The choices of at most so many of the boxes, in order."""
    return sorted([choice for size in range(min(many, plugs) + 1) for choice in combinations(range(many), size)])


def following(boxes, temperatures, choices):
    """Pairs of a choice and the state behind it, in order, for the choices with which no box is out of range."""
    pairs = [(choice, after_hour(boxes, temperatures, choice)) for choice in choices]
    return [(choice, state) for choice, state in pairs if not out_of_range(boxes, state)]


def reachable(boxes, plugs):
    """For each state that can be reached, what is following it."""
    choices = choices_of(len(boxes), plugs)
    states = [temperatures_of(boxes)]
    found = {}
    while states:
        state = states.pop()
        if state not in found:
            found[state] = following(boxes, state, choices)
            states.extend([later for _, later in found[state]])
    return found


def lifetimes(graph):
    """For each state that is not kept for ever the greatest number of hours of a plan from it on."""
    open_ways = {state: len(pairs) for state, pairs in graph.items()}
    earlier = {state: [] for state in graph}
    for state, pairs in graph.items():
        for _, later in pairs:
            earlier[later].append(state)
    found = {}
    ended = [state for state in graph if not graph[state]]
    hours = 0
    while ended:
        ahead = []
        for state in ended:
            found[state] = hours
            for other in earlier[state]:
                open_ways[other] -= 1
                if open_ways[other] == 0:
                    ahead.append(other)
        # A state ends with the last of its ways: this one is the longest, as the hours ascend.
        ended = ahead
        hours += 1
    return found


def is_sustainable(boxes, plugs):
    """True if the boxes are kept for ever."""
    check_states(boxes, 1000)
    return temperatures_of(boxes) not in lifetimes(reachable(boxes, plugs))


def sustainable_choices(boxes, plugs):
    """The choices for an hour behind which the boxes are kept for ever, in order."""
    check_states(boxes, 1000)
    graph = reachable(boxes, plugs)
    ending = lifetimes(graph)
    return tuple([choice for choice, state in graph[temperatures_of(boxes)] if state not in ending])


def longest_plan(boxes, plugs):
    """The first of the longest plans that hold; None if the boxes are kept for ever."""
    check_states(boxes, 1000)
    graph = reachable(boxes, plugs)
    ending = lifetimes(graph)
    state = temperatures_of(boxes)
    if state not in ending:
        return None
    plan = []
    while ending[state] > 0:
        choice, state = [pair for pair in graph[state] if ending[pair[1]] == ending[state] - 1][0]
        plan.append(choice)
    return tuple(plan)


def steps_between(graph):
    """For each state the fewest hours from it to each state that can be reached from it."""
    found = {}
    for start in graph:
        hours = {start: 0}
        queue = [start]
        place = 0
        while place < len(queue):
            for _, later in graph[queue[place]]:
                if later not in hours:
                    hours[later] = hours[queue[place]] + 1
                    queue.append(later)
            place += 1
        found[start] = hours
    return found


def hours_to_repeat(graph, steps):
    """For each state the fewest hours of a plan from it on that ends in a state in which it was before."""
    circuits = {}
    for state in graph:
        ways = [steps[later][state] + 1 for _, later in graph[state] if state in steps[later]]
        if ways:
            circuits[state] = min(ways)
    return {start: min([hours + circuits[other] for other, hours in steps[start].items() if other in circuits])
            for start in graph}


def shortest_cycle(boxes, plugs):
    """The first of the shortest plans that lead back to a state: its choices ahead of it, and from it on; or None."""
    check_states(boxes, 200)
    graph = reachable(boxes, plugs)
    ending = lifetimes(graph)
    state = temperatures_of(boxes)
    if state in ending:
        return None
    kept = {at: [pair for pair in pairs if pair[1] not in ending] for at, pairs in graph.items() if at not in ending}
    steps = steps_between(kept)
    repeats = hours_to_repeat(kept, steps)
    left = repeats[state]
    seen = []
    plan = []
    while state not in seen:
        seen.append(state)
        left -= 1
        # What is left from the next state on leads back to a state seen, or round one that comes later.
        ways = [(choice, later, [steps[later][other] for other in seen if other in steps[later]])
                for choice, later in kept[state]]
        choice, state = [(choice, later) for choice, later, hours in ways if min([repeats[later], *hours]) == left][0]
        plan.append(choice)
    ahead = seen.index(state)
    return tuple(plan[:ahead]), tuple(plan[ahead:])


def fewest_plugs(boxes):
    """The fewest plugs with which the boxes are kept for ever, or None."""
    for plugs in range(len(boxes) + 1):
        if is_sustainable(boxes, plugs):
            return plugs
    return None


def longest_outage(boxes, plugs):
    """The most hours without plugs behind which the boxes are kept for ever; None if they are not now."""
    check_states(boxes, 1000)
    ending = lifetimes(reachable(boxes, plugs))
    state = temperatures_of(boxes)
    longest = None
    hours = 0
    while not out_of_range(boxes, state):
        if state not in ending:
            longest = hours
        state = after_hour(boxes, state, ())
        hours += 1
    return longest


class Rack:
    """Keeps boxes, and those of them that are plugged in."""

    def __init__(self, boxes, plugs):
        check_states(boxes, 1000)
        self._boxes = tuple([tuple(box) for box in boxes])
        self._plugs = plugs
        self._plugged = ()

    def plugged(self):
        """The boxes that are plugged in, ascending."""
        return self._plugged

    def boxes(self):
        """The boxes as they are now."""
        return self._boxes

    def plug(self, number):
        """Plug a box in."""
        self._check_box(number)
        if number in self._plugged:
            raise NotSo("the box is plugged in")
        if len(self._plugged) >= self._plugs:
            raise NoPlug("all plugs are in use")
        self._plugged = tuple(sorted([*self._plugged, number]))

    def unplug(self, number):
        """Take a box off its plug."""
        self._check_box(number)
        if number not in self._plugged:
            raise NotSo("the box is not plugged in")
        self._plugged = tuple([other for other in self._plugged if other != number])

    def advance(self):
        """Let an hour pass; return the temperatures."""
        temperatures, out = advance(self._boxes, self._plugged)
        if out:
            raise LeavesRange(out[0])
        self._boxes = with_temperatures(self._boxes, temperatures)
        return temperatures

    def hours_left(self):
        """The most hours of a plan that holds from now on; None if the boxes are kept for ever."""
        return lifetimes(reachable(self._boxes, self._plugs)).get(temperatures_of(self._boxes))

    def _check_box(self, number):
        if number < 0 or number >= len(self._boxes):
            raise NoBox("no box has this number")
