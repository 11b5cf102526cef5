"""Cranes on one rail: their paths, and sweeps along the bays of a ship."""

from quaybest.errors import QuayError

LAST_POSITION = 200
MOST_CRANES = 6
MOST_ROWS = 2500


class BadPaths(QuayError):
    """Paths, or formations, are not as they should be."""

    def __init__(self, minute):
        self.minute = minute


class NotStepwise(QuayError):
    """A crane moves too far in a minute."""

    def __init__(self, minute):
        self.minute = minute


class TooClose(QuayError):
    """A formation does not keep the gap."""

    def __init__(self, number):
        self.number = number


class BadSweep(QuayError):
    """Loads or cuts are not as they should be."""

    def __init__(self, reason):
        self.reason = reason


def check_rows(rows, most):
    """Raise BadPaths with the first wrong row, or with None for a wrong number of rows, or of cranes in row 0."""
    if not rows or len(rows) > most or not rows[0] or len(rows[0]) > MOST_CRANES:
        raise BadPaths(None)
    for minute, row in enumerate(rows):
        outside = [position for position in row if position < 0 or position > LAST_POSITION]
        if len(row) != len(rows[0]) or outside:
            raise BadPaths(minute)


def jumps(earlier, later, crane):
    """True if a crane moves by more than one position from a row to the next one."""
    return abs(later[crane] - earlier[crane]) > 1


def is_close(row, crane, gap):
    """True if a crane is not the gap farther right than the crane numbered one less."""
    return crane > 0 and row[crane] - row[crane - 1] < gap


def keeps_gap(row, gap):
    """True if a formation keeps the gap."""
    return not any([is_close(row, crane, gap) for crane in range(len(row))])


def check_stepwise(paths):
    """Raise NotStepwise with the first row to which a crane moves too far."""
    for minute in range(1, len(paths)):
        if any([jumps(paths[minute - 1], paths[minute], crane) for crane in range(len(paths[0]))]):
            raise NotStepwise(minute)


def first_violation(paths, gap):
    """The first (minute, crane, reason) at which a crane jumps or is too close, or None."""
    check_rows(paths, MOST_ROWS)
    for minute, row in enumerate(paths):
        for crane in range(len(row)):
            if minute > 0 and jumps(paths[minute - 1], row, crane):
                return minute, crane, "jump"
            if is_close(row, crane, gap):
                return minute, crane, "too close"
    return None


def uncross(paths):
    """The rows with their positions in ascending order."""
    check_rows(paths, MOST_ROWS)
    check_stepwise(paths)
    return tuple([tuple(sorted(row)) for row in paths])


def ranks(paths):
    """For each minute the ranks of the cranes from the left; at one position as in the minute before."""
    check_rows(paths, MOST_ROWS)
    check_stepwise(paths)
    found = []
    before = list(range(len(paths[0])))
    for row in paths:
        ordered = sorted([(position, before[crane], crane) for crane, position in enumerate(row)])
        cranes = [place[2] for place in ordered]
        before = [cranes.index(crane) for crane in range(len(row))]
        found.append(tuple(before))
    return tuple(found)


def towards(position, goal):
    """The position one closer to a goal, or the goal itself."""
    if position < goal:
        return position + 1
    return max(position - 1, goal)


def route(formations, gap):
    """The rows that lead through all formations, each crane going straight from one to the next one."""
    check_rows(formations, 5)
    for number, formation in enumerate(formations):
        if not keeps_gap(formation, gap):
            raise TooClose(number)
    rows = [tuple(formations[0])]
    for formation in formations:
        while rows[-1] != tuple(formation):
            rows.append(tuple([towards(position, goal) for position, goal in zip(rows[-1], formation)]))
    return tuple(rows)


def check_sweep(loads, cuts):
    """Raise BadSweep with the first reason for which loads and cuts are wrong."""
    if len(loads) > 50 or any([load < 0 or load > 9 for load in loads]):
        raise BadSweep("loads")
    bounds = [0, *cuts, len(loads)]
    if len(cuts) > MOST_CRANES - 1 or bounds != sorted(bounds):
        raise BadSweep("cuts")


class Sweep:
    """The cranes, and what is left of the loads, while they sweep along the bays."""

    def __init__(self, loads, cuts, gap):
        cranes = len(cuts) + 1
        self.gap = gap
        self.left = list(loads)
        # The position of bay 0, and the bays of each crane: its first one, and the one behind its last one.
        self.origin = cranes * gap
        self.shares = list(zip([0, *cuts], [*cuts, len(loads)]))
        self.formation = [crane * gap for crane in range(cranes)]
        self.ends = [self.origin + len(loads) + crane * gap for crane in range(cranes)]

    def worked_bay(self, crane):
        """The bay at which a crane stands, if it is one of its own and something is left of its load; or None."""
        bay = self.formation[crane] - self.origin
        first, behind = self.shares[crane]
        if first <= bay < behind and self.left[bay] > 0:
            return bay
        return None

    def is_stopped(self, crane):
        """True if a crane is at its end, or too close to the next one to move."""
        if self.formation[crane] == self.ends[crane]:
            return True
        if crane + 1 == len(self.formation):
            return False
        return self.formation[crane + 1] - self.formation[crane] <= self.gap

    def pass_minute(self):
        """Let a minute pass; return the bays of whose loads nothing is left by it."""
        emptied = []
        for crane in range(len(self.formation) - 1, -1, -1):
            bay = self.worked_bay(crane)
            if bay is not None:
                self.left[bay] -= 1
                if self.left[bay] == 0:
                    emptied.append(bay)
            elif not self.is_stopped(crane):
                self.formation[crane] += 1
        return emptied


def sweep(loads, cuts, gap):
    """The rows of a sweep, and for each bay the first row from which on nothing is left of its load."""
    check_sweep(loads, cuts)
    state = Sweep(loads, cuts, gap)
    rows = [tuple(state.formation)]
    done = [0] * len(loads)
    while state.formation != state.ends:
        for bay in state.pass_minute():
            done[bay] = len(rows)
        rows.append(tuple(state.formation))
    return tuple(rows), tuple(done)
