"""A voyage along ports: boxes that are loaded, lifted and discharged on the way."""

from quaybest.errors import QuayError
from quaybest.stowage import LAST_PORT, all_loaded, all_opened


class VoyageOver(QuayError):
    """The ship is in the last port."""


class TooManyBoxes(QuayError):
    """There would be more boxes than there may be."""


class BadStack(QuayError):
    """A box cannot be loaded in a stack that there is not, or for a port that does not come."""

    def __init__(self, box):
        self.box = box


class StackFull(QuayError):
    """There would be too many boxes in a stack."""

    def __init__(self, stack):
        self.stack = stack


class Voyage:
    """Keeps the stacks of a ship on its voyage."""

    def __init__(self, stacks, height):
        self.port = 0
        self.height = height
        self._stacks = ((),) * stacks
        # By the numbers of the boxes: (from, to), the stack, and how often the box was lifted.
        self._boxes = []
        self._plan = []
        self._lifts = []

    def load(self, loads):
        """Load boxes, told by pairs (stack, to), in the present port; return the events."""
        self._check_port()
        self._check_loads(loads)
        fresh = list(range(len(self._boxes), len(self._boxes) + len(loads)))
        for stack, stop in loads:
            self._boxes.append((self.port, stop))
            self._plan.append(stack)
            self._lifts.append(0)
        self._stacks, events = all_loaded(self._stacks, self._boxes, self._plan, fresh, self.port)
        return tuple(events)

    def sail(self):
        """Go to the next port and open the stacks there; return the events."""
        self._check_port()
        self.port += 1
        self._stacks, events = all_opened(self._stacks, self._boxes, self.port)
        for _, word, box in events:
            if word == "lift":
                self._lifts[box] += 1
        return tuple(events)

    def stacks(self):
        """The present stacks, each from the bottom."""
        return self._stacks

    def lift_counts(self):
        """How often each box was lifted."""
        return tuple(self._lifts)

    def _check_port(self):
        if self.port == LAST_PORT:
            raise VoyageOver("this is the last port")

    def _check_loads(self, loads):
        for box, (stack, stop) in enumerate(loads):
            if stack < 0 or stack >= len(self._stacks) or stop <= self.port or stop > LAST_PORT:
                raise BadStack(box)
        if len(self._boxes) + len(loads) > 60:
            raise TooManyBoxes("there would be more than 60 boxes")
        added = [stack for stack, _ in loads]
        for number, held in enumerate(self._stacks):
            if len(held) + added.count(number) > self.height:
                raise StackFull(number)
