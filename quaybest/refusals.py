"""What a terminal refuses."""

from quaybest.errors import QuayError


class Refused(QuayError):
    """A call that a terminal refuses, for a reason."""

    def __init__(self, reason):
        self.reason = reason


def refuse_if(condition, reason):
    """Raise Refused with a reason if a condition holds."""
    if condition:
        raise Refused(reason)
