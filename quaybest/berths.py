"""Berths: earliest starts of ships along a quay, what delays them, and plans of their starts."""

from itertools import permutations

from quaybest.errors import QuayError


class TooEarly(QuayError):
    """A ship starts before it is ready."""

    def __init__(self, ship):
        self.ship = ship


class Overlapping(QuayError):
    """Two ships overlap."""

    def __init__(self, ships):
        self.ships = ships


def shares(first, second):
    """True if two ships need a bollard in common."""
    return first[0] < second[0] + second[1] and second[0] < first[0] + first[1]


def starts(ships):
    """The earliest starts."""
    found = []
    for ship in ships:
        begin = ship[2]
        for number, earlier in enumerate(found):
            if shares(ships[number], ship):
                begin = max(begin, earlier + ships[number][3])
        found.append(begin)
    return tuple(found)


def critical_predecessor(ships, begins, number):
    """The critical predecessor of a ship with the smallest number, by the earliest starts; or None."""
    if begins[number] == ships[number][2]:
        return None
    for other in range(number):
        if shares(ships[other], ships[number]) and begins[other] + ships[other][3] == begins[number]:
            return other
    return None


def critical_chain(ships, number):
    """The critical chain of a ship."""
    begins = starts(ships)
    chain = [number]
    before = critical_predecessor(ships, begins, number)
    while before is not None:
        chain.append(before)
        before = critical_predecessor(ships, begins, before)
    return tuple(chain[::-1])


def slack(ships, number):
    """The slack of a ship, or None."""
    begins = starts(ships)
    behind = [begins[other] for other in range(number + 1, len(ships)) if shares(ships[other], ships[number])]
    if not behind:
        return None
    # A later ship moves only if one that shares with this one does, so the first of those decides.
    return min(behind) - ships[number][3] - ships[number][2]


def changed(ships, number, later, longer):
    """The ships, as a tuple, with one that is so much later ready and stays so much longer."""
    position, length, ready, stay = ships[number]
    rows = list(ships)
    rows[number] = (position, length, ready + later, stay + longer)
    return tuple(rows)


def later_starts(before, after):
    """Pairs (number, minutes) of the ships that start later after a change than before."""
    return tuple([(number, after[number] - before[number]) for number in range(len(before))
                  if after[number] > before[number]])


def delay_effect(ships, number, by):
    """Which ships start later, and by how much, if a ship is ready later."""
    return later_starts(starts(ships), starts(changed(ships, number, by, 0)))


def stay_effect(ships, number, by):
    """Which ships start later, and by how much, if a ship stays longer."""
    return later_starts(starts(ships), starts(changed(ships, number, 0, by)))


def free_bollards(bollards, ships, minute):
    """The stretches of bollards at which no ship lies in a minute, by the earliest starts."""
    begins = starts(ships)
    taken = sorted([(ship[0], ship[0] + ship[1]) for number, ship in enumerate(ships)
                    if begins[number] <= minute < begins[number] + ship[3]])
    found = []
    free = 0
    for first, behind in taken:
        if free < min(first, bollards):
            found.append((free, min(first, bollards) - 1))
        free = max(free, behind)
    if free < bollards:
        found.append((free, bollards - 1))
    return tuple(found)


def overlaps(ships, plan, first, second):
    """True if two ships overlap in a plan."""
    if not shares(ships[first], ships[second]):
        return False
    return plan[first] < plan[second] + ships[second][3] and plan[second] < plan[first] + ships[first][3]


def conflicts(ships, plan):
    """The ships that start too early, and the pairs of those that overlap."""
    early = [number for number, ship in enumerate(ships) if plan[number] < ship[2]]
    pairs = [(first, second) for first in range(len(ships)) for second in range(first + 1, len(ships))
             if overlaps(ships, plan, first, second)]
    return tuple(early), tuple(pairs)


def check_feasible(ships, plan):
    """Raise TooEarly or Overlapping unless a plan is feasible."""
    early, pairs = conflicts(ships, plan)
    if early:
        raise TooEarly(early[0])
    if pairs:
        raise Overlapping(pairs[0])


def waited(ships, plan):
    """The waiting of a plan that is feasible."""
    return sum(plan) - sum([ship[2] for ship in ships])


def waiting(ships, plan):
    """The waiting of a plan."""
    check_feasible(ships, plan)
    return waited(ships, plan)


def first_gap(ready, stay, taken):
    """The first minute from ready on at which a stay meets none of the pairs (start, minute of leaving)."""
    begin = ready
    # Ascending pairs: one that is passed or left behind does not meet a later beginning either.
    for start, leaving in sorted(taken):
        if start < begin + stay and begin < leaving:
            begin = leaving
    return begin


def compacted(ships, plan):
    """The compacted plan."""
    check_feasible(ships, plan)
    placed = {}
    ordered = sorted([(start, number) for number, start in enumerate(plan)])
    for _, place in ordered:
        ship = ships[place]
        taken = [(begin, begin + ships[other][3]) for other, begin in placed.items() if shares(ships[other], ship)]
        placed[place] = first_gap(ship[2], ship[3], taken)
    return tuple([placed[number] for number in range(len(ships))])


def best_order(ships):
    """The first order with the least waiting, and that waiting."""
    best = None
    least = 0
    for order in permutations(range(len(ships))):
        ordered = [ships[number] for number in order]
        told = waited(ordered, starts(ordered))
        if best is None or told < least:
            best = order
            least = told
    return best, least
