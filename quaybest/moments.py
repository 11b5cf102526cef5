"""Moments of stacks: the order of boxes of different heights, and the stacks that they are put in."""

from quaybest.errors import QuayError
from quaybest.search import all_places


class BadBoxes(QuayError):
    """Boxes are not as they should be."""

    def __init__(self, number):
        self.number = number


def check_boxes(boxes, most):
    """Raise BadBoxes with the first wrong box, or with None for more than most."""
    if len(boxes) > most:
        raise BadBoxes(None)
    for number, (weight, height) in enumerate(boxes):
        if weight < 1 or weight > 400 or height < 1 or height > 40:
            raise BadBoxes(number)


def moment_of(boxes):
    """The moment of boxes that are not looked at."""
    total = 0
    below = 0
    for weight, height in boxes:
        total += weight * (height + 2 * below)
        below += height
    return total


def least_order(boxes):
    """The first order with the least moment, of boxes that are not looked at."""
    # Of two neighbours the one with less height for its weight belongs below; a multiple of all weights
    # makes a whole number of height / weight.
    common = 1
    for weight, _ in boxes:
        common = common * weight
    return tuple([number for _, number in sorted([(height * (common // weight), number)
                                                  for number, (weight, height) in enumerate(boxes)])])


def least_moment(boxes):
    """The least moment of boxes that are not looked at."""
    return moment_of([boxes[number] for number in least_order(boxes)])


def moment(boxes):
    """The moment of boxes as they are stacked from the bottom."""
    check_boxes(boxes, 9)
    return moment_of(boxes)


def min_moment_order(boxes):
    """The first order with the least moment, and this moment."""
    check_boxes(boxes, 9)
    return least_order(boxes), least_moment(boxes)


def distribute(boxes, stacks):
    """The first places in so many stacks with which the greatest moment of a stack is least, and this moment."""
    check_boxes(boxes, 8)
    best = None
    for places in all_places(len(boxes), stacks):
        moments = [least_moment([box for box, place in zip(boxes, places) if place == stack])
                   for stack in range(stacks)]
        if best is None or max(moments) < best[1]:
            best = (places, max(moments))
    return best
