"""The refusals of the operations, one class for each error code."""


class NoInstance(Exception):
    """No instance exists."""


class Missing(Exception):
    """There is no such station or option."""


class OutOfRange(Exception):
    """An argument is outside its range, or the list isn't a plan."""


class TooManyOptions(Exception):
    """The station has as many options as it may have."""


class NotAllowed(Exception):
    """An option or a plan isn't allowed, or there is no result."""
