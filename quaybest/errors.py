"""The base of all errors of the package."""


class QuayError(ValueError):
    """Every error that the document names stands under this one."""
