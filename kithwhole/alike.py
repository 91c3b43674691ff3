"""Whether two values are equal throughout, where a boolean is never equal to an integer."""


def alike(first, second):
    """Return True if both are equal and of equal kinds, in whatever tuples and lists they stand."""
    # A loop, since plans may be nested deeper than functions should call themselves.
    queue = [(first, second)]
    while queue:
        one, other = queue.pop()
        if _are_rows(one, other):
            if len(one) != len(other):
                return False
            queue.extend(list(zip(one, other)))
        elif isinstance(one, bool) != isinstance(other, bool) or isinstance(one, int) != isinstance(other, int):
            return False
        elif one != other:
            return False
    return True


def _are_rows(one, other):
    if isinstance(one, tuple):
        return isinstance(other, tuple)
    return isinstance(one, list) and isinstance(other, list)
