"""What a keeper refuses, one class for each kind of refusal."""


class ChangeError(ValueError):
    """Any refusal."""


class BadView(ChangeError):
    """A view that is not let by."""


class NoTable(ChangeError):
    """There is no such table."""


class NoView(ChangeError):
    """There is no view of that number."""


class BadRow(ChangeError):
    """A row is not as wide as its table."""


class Lacking(ChangeError):
    """Some row would lie in a table less than no time."""


class Full(ChangeError):
    """There are as many views as there may be."""
