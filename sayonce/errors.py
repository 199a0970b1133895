"""The base of all errors of the package."""


class SayError(ValueError):
    """Something that the package was asked for cannot be done."""
