"""Empties on a ring of ports: flows over its legs, what they cost, and the moves of which they are made."""

from quaybest.errors import QuayError

FEWEST_PORTS = 2
MOST_PORTS = 24
GREATEST_COST = 50
GREATEST_SURPLUS = 1000


class BadLegs(QuayError):
    """Legs are not as they should be."""

    def __init__(self, number):
        self.number = number


class BadSurplus(QuayError):
    """A surplus is not as it should be."""

    def __init__(self, port):
        self.port = port


class BadFlows(QuayError):
    """There is another number of flows than there should be."""


class AllUsed(QuayError):
    """No leg is unused."""


def is_ring(rows):
    """True if there are as many rows as a ring can have ports."""
    return FEWEST_PORTS <= len(rows) <= MOST_PORTS


def check_legs(legs):
    """Raise BadLegs with the first wrong leg, or with None for too few or too many."""
    if not is_ring(legs):
        raise BadLegs(None)
    for number, (forward, backward) in enumerate(legs):
        if min(forward, backward) < 1 or max(forward, backward) > GREATEST_COST:
            raise BadLegs(number)


def check_surplus(surplus):
    """Raise BadSurplus with the first wrong port, or with None for a wrong number of them or a wrong sum."""
    if not is_ring(surplus):
        raise BadSurplus(None)
    for port, number in enumerate(surplus):
        if abs(number) > GREATEST_SURPLUS:
            raise BadSurplus(port)
    if sum(surplus) != 0:
        raise BadSurplus(None)


def check_both(legs, surplus):
    """Raise BadLegs, or BadSurplus also for another number of ports than that of the legs."""
    check_legs(legs)
    check_surplus(surplus)
    if len(surplus) != len(legs):
        raise BadSurplus(None)


def excesses(flows):
    """The excess of each port."""
    # The leg ahead of leg 0 is the last one.
    return [flow - flows[port - 1] for port, flow in enumerate(flows)]


def cost_of(legs, flows):
    """What flows cost."""
    return sum([max(flow, 0) * forward + max(-flow, 0) * backward for flow, (forward, backward) in zip(flows, legs)])


def flows_from(surplus, first):
    """The flows that balance a surplus, with a first one."""
    flows = [first]
    for number in surplus[1:]:
        flows.append(flows[-1] + number)
    return tuple(flows)


def best_firsts(legs, surplus):
    """The least cost, and the least and the greatest flow of leg 0 with which flows have it."""
    # The cost bends only where a flow is 0, and in between it goes straight: so its ends are among these.
    firsts = sorted([-flow for flow in flows_from(surplus, 0)])
    costs = [cost_of(legs, flows_from(surplus, first)) for first in firsts]
    least = min(costs)
    best = [first for first, told in zip(firsts, costs) if told == least]
    return least, best[0], best[-1]


def cheapest_flows(legs, surplus):
    """The least cost and the optimal flows, of legs and a surplus that are not looked at."""
    least, first, _ = best_firsts(legs, surplus)
    return least, flows_from(surplus, first)


def is_balanced(surplus, flows):
    """True if flows balance a surplus."""
    check_surplus(surplus)
    if len(flows) != len(surplus):
        raise BadFlows("there is one flow for each leg")
    return excesses(flows) == list(surplus)


def cost(legs, flows):
    """What flows cost."""
    check_legs(legs)
    if len(flows) != len(legs):
        raise BadFlows("there is one flow for each leg")
    return cost_of(legs, flows)


def flows_with_first(surplus, first):
    """The flows that balance a surplus, with this flow of leg 0."""
    check_surplus(surplus)
    return flows_from(surplus, first)


def optimal_flows(legs, surplus):
    """The least cost, and the optimal flows."""
    check_both(legs, surplus)
    return cheapest_flows(legs, surplus)


def optimal_range(legs, surplus):
    """The least and the greatest flow of leg 0 of the flows that cost least."""
    check_both(legs, surplus)
    _, low, high = best_firsts(legs, surplus)
    return low, high


def steps_of(legs, flows):
    """The step of each leg, by the optimal flows."""
    steps = [forward if flow > 0 else -backward for flow, (forward, backward) in zip(flows, legs)]
    for leg, flow in enumerate(flows):
        if flow == 0:
            steps[leg] += min(sum(legs[leg]), -sum(steps))
    return steps


def potentials(legs, surplus):
    """The potentials that earn the cost of the optimal flows."""
    check_both(legs, surplus)
    steps = steps_of(legs, cheapest_flows(legs, surplus)[1])
    return tuple([sum(steps[:port]) for port in range(len(steps))])


def cost_slack(legs, surplus, leg):
    """By how much a leg can cost more, the way it is used, so that the optimal flows stay the same; None if unused."""
    check_both(legs, surplus)
    least, flows = cheapest_flows(legs, surplus)
    if flows[leg] == 0:
        return None
    # Each unit of cost more is a unit that the flows with one less over this leg do not pay, and those are the next
    # ones on that side. With a smaller first flow they have to cost more still, with a greater one at least as much.
    if flows[leg] > 0:
        return cost_of(legs, flows_from(surplus, flows[0] - 1)) - least - 1
    return cost_of(legs, flows_from(surplus, flows[0] + 1)) - least


def next_move(flows):
    """The next move of flows that leave a leg unused, and the legs on its way; None if there is none."""
    many = len(flows)
    excess = excesses(flows)
    starts = [port for port in range(many) if excess[port] > 0]
    if not starts:
        return None
    start = starts[0]
    step = 1 if flows[start] > 0 else -1
    stop = start
    legs = []
    while excess[stop] >= 0:
        # A leg is numbered as the port from which it leads forward.
        legs.append(stop if step == 1 else (stop - 1) % many)
        stop = (stop + step) % many
    count = min(excess[start], -excess[stop], abs(flows[legs[0]]))
    return (start, "forward" if step == 1 else "backward", stop, count), legs


def to_moves(flows):
    """The moves of flows."""
    if not is_ring(flows):
        raise BadFlows("there are 2 to 24 flows")
    if 0 not in flows:
        raise AllUsed("no leg is unused")
    left = list(flows)
    moves = []
    found = next_move(left)
    while found is not None:
        move, legs = found
        moves.append(move)
        for leg in legs:
            left[leg] -= move[3] if move[1] == "forward" else -move[3]
        found = next_move(left)
    return tuple(moves)
