"""Which writes show in a cell, and which values a column holds."""

from kithwhole.undo import knows


def shown_writes(store, allowed, writes):
    """Return a new list of those of the writes with an effect on one cell that show."""
    return [spot for spot in writes if not _is_known(store, writes, spot)]


def _is_known(store, writes, spot):
    # The last writes know the most.
    for other in reversed(writes):
        if knows(store, other, spot):
            return True
    return False


def has_kind(holds, value):
    """Return True if the value is None or of the kind of a column that holds values."""
    if holds == "integer":
        return value is None or is_integer_value(value)
    if holds == "text":
        return value is None or isinstance(value, str)
    if holds == "boolean":
        return value is None or isinstance(value, bool)
    return False


def is_integer_value(value):
    """Return True for an integer that is no boolean."""
    return isinstance(value, int) and not isinstance(value, bool)


def is_reference(holds):
    """Return True if a column holds references."""
    return isinstance(holds, tuple)
