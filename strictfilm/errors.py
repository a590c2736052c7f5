"""The refusals, one error each."""


class NotRight(Exception):
    """The file breaks a rule of the form."""
