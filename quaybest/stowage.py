"""Stowage: boxes in stacks on a voyage along ports, and the shifts that a plan needs."""

from quaybest.search import all_places, first_colouring, longest_clique

LAST_PORT = 11


def opened(stack, boxes, port):
    """A stack behind its opening in a port, and the events; one without a box for the port stays as it is."""
    lowest = 0
    while lowest < len(stack) and boxes[stack[lowest]][1] != port:
        lowest += 1
    kept = [box for box in stack[lowest:] if boxes[box][1] != port]
    events = [(port, "lift" if box in kept else "discharge", box) for box in stack[lowest:][::-1]]
    restowed = [(port, "restow", box) for box in kept]
    return (*stack[:lowest], *kept), events + restowed


def all_opened(stacks, boxes, port):
    """The stacks behind the opening of all of them in a port, and the events."""
    found = []
    events = []
    for stack in stacks:
        kept, more = opened(stack, boxes, port)
        found.append(kept)
        events.extend(more)
    return tuple(found), events


def all_loaded(stacks, boxes, plan, fresh, port):
    """The stacks behind the loading of fresh boxes in a port, and the events."""
    found = []
    events = []
    for number, stack in enumerate(stacks):
        # The later a box goes off board, the lower it stands.
        ordered = sorted([(-boxes[box][1], box) for box in fresh if plan[box] == number])
        added = [box for _, box in ordered]
        found.append((*stack, *added))
        events.extend([(port, "load", box) for box in added])
    return tuple(found), events


def worked(boxes, plan, last):
    """The stacks behind all work in the ports up to a last one, and the events until then."""
    stacks = ((),) * (max([-1, *plan]) + 1)
    events = []
    for port in range(last + 1):
        stacks, unloading = all_opened(stacks, boxes, port)
        fresh = [number for number, box in enumerate(boxes) if box[0] == port]
        stacks, loading = all_loaded(stacks, boxes, plan, fresh, port)
        events.extend(unloading + loading)
    return stacks, events


def simulated(boxes, plan):
    """All events of the voyage, in the order in which they are done."""
    return tuple(worked(boxes, plan, LAST_PORT)[1])


def shift_count(boxes, plan):
    """The number of shifts."""
    return len([event for event in simulated(boxes, plan) if event[1] == "lift"])


def stacks_after(boxes, plan, port):
    """The stacks behind all work in a port."""
    return worked(boxes, plan, port)[0]


def lifted_at(boxes, plan, port):
    """The boxes that are lifted in a port, in the order in which they are removed."""
    return tuple([box for at, word, box in simulated(boxes, plan) if at == port and word == "lift"])


def crosses(first, second):
    """True if the first box crosses the second one."""
    return first[0] < second[0] < first[1] < second[1]


def crossings(boxes):
    """All pairs (i, j) such that box i crosses box j, ascending."""
    return tuple([(number, other) for number, box in enumerate(boxes) for other in range(len(boxes))
                  if crosses(box, boxes[other])])


def conflicts_of(boxes):
    """For each box a row that tells for each box whether the two are in conflict."""
    return [[crosses(box, other) or crosses(other, box) for other in boxes] for box in boxes]


def shift_free_plan(boxes, stacks):
    """The first plan with so many stacks that needs no shift, or None."""
    return first_colouring(conflicts_of(boxes), stacks)


def highest(boxes, plan):
    """The greatest number of boxes that stand in one stack behind the work of a port."""
    # A stack is highest behind the work of a port in which one of its boxes is loaded.
    heights = [len([number for number, box in enumerate(boxes) if plan[number] == stack and box[0] <= port < box[1]])
               for stack, (port, _) in zip(plan, boxes)]
    return max([0, *heights])


def fewest_shifts(boxes, stacks, height):
    """The fewest shifts with so many stacks, none higher than this, and the first plan that has them; or None."""
    best = None
    for plan in all_places(len(boxes), stacks):
        if highest(boxes, plan) > height:
            continue
        shifts = shift_count(boxes, plan)
        if best is None or shifts < best[0]:
            best = (shifts, plan)
    return best


def largest_clique(boxes):
    """The first ascending tuple of as many boxes as possible of which every two are in conflict."""
    return longest_clique(conflicts_of(boxes))


def shortest_odd_cycle(boxes):
    """The first of the shortest tuples of different boxes, an odd number, at least three, round which each is in
    conflict with the next one; or None."""
    conflicts = conflicts_of(boxes)
    rows = [(number,) for number in range(len(boxes))]
    while rows:
        length = len(rows[0])
        # No box is in conflict with itself, so no tuple of one box is closed.
        closed = [row for row in rows if length % 2 == 1 and conflicts[row[-1]][row[0]]]
        if closed:
            return closed[0]
        rows = [(*row, number) for row in rows for number in range(len(boxes))
                if number not in row and conflicts[row[-1]][number]]
    return None


def turned_round(boxes):
    """The boxes of the voyage the other way about."""
    return tuple([(LAST_PORT - stop, LAST_PORT - start) for start, stop in boxes])
