"""Segregation: dangerous goods in rows and in holds, apart by their classes."""

from itertools import permutations

from quaybest.intervals import complement, merged
from quaybest.search import first_colouring, longest_clique


def apart(table, first, second):
    """By how much two classes must be apart."""
    degrees, distances = table
    # Two boxes never stand at one position, whatever their classes.
    return max(1, distances[degrees[first][second]])


def too_close(table, first, second):
    """True if two boxes are too close."""
    return abs(first[1] - second[1]) < apart(table, first[0], second[0])


def violations(table, row):
    """The pairs of boxes that are too close, ascending."""
    return tuple([(first, second) for first in range(len(row)) for second in range(first + 1, len(row))
                  if too_close(table, row[first], row[second])])


def is_segregated(table, row):
    """True if no two boxes of a row are too close."""
    return not violations(table, row)


def pack(table, classes):
    """The positions of boxes of these classes, packed."""
    positions = []
    for kind in classes:
        # zip ends with the positions: it takes the boxes ahead of this one alone.
        least = [position + apart(table, other, kind) for other, position in zip(classes, positions)]
        positions.append(max([0, *least]))
    return tuple(positions)


def critical_chain(table, classes, box):
    """Boxes from box 0 to this one, each behind its first critical predecessor."""
    positions = pack(table, classes)
    chain = [box]
    while chain[-1] != 0:
        last = chain[-1]
        critical = [other for other in range(last)
                    if positions[last] - positions[other] == apart(table, classes[other], classes[last])]
        chain.append(critical[0])
    return tuple(chain[::-1])


def shortest_row(table, classes):
    """The least length of a packing over all orders, the first order that has it, and its positions."""
    best = None
    for order in permutations(range(len(classes))):
        positions = pack(table, [classes[box] for box in order])
        length = max([0, *[position + 1 for position in positions]])
        if best is None or length < best[0]:
            best = (length, order, positions)
    return best


def triangle_violation(table):
    """The first classes (a, b, c) so that a and c must be apart by more than both are from b together; or None."""
    kinds = range(len(table[0]))
    for first in kinds:
        for second in kinds:
            for third in kinds:
                if apart(table, first, third) > apart(table, first, second) + apart(table, second, third):
                    return first, second, third
    return None


def allowed_positions(table, row, kind, length):
    """Pairs of the first and the last of the positions at which a box of a class would be too close to none."""
    barred = [(position - apart(table, other, kind) + 1, position + apart(table, other, kind) - 1)
              for other, position in row]
    return complement(merged(barred), length - 1)


def conflicts_of(table, classes, degree):
    """For each box a row that tells for each box whether the two are in conflict by a degree."""
    return [[table[0][first][second] >= degree for second in classes] for first in classes]


def min_holds(table, classes, degree):
    """The fewest holds for which there is an assignment, and the first assignment with so many."""
    conflicts = conflicts_of(table, classes, degree)
    holds = 0
    found = first_colouring(conflicts, holds)
    while found is None:
        holds += 1
        found = first_colouring(conflicts, holds)
    return holds, found


def largest_conflict_set(table, classes, degree):
    """The longest conflict set, the first of several."""
    return longest_clique(conflicts_of(table, classes, degree))
