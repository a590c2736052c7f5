"""The error that is raised while a file is read."""


class NotRight(Exception):
    """The file breaks a rule of the form."""
