"""Live results: the rows that come and go, and the differences of lists and of joins."""

from kithwhole.meaning import answer
from kithwhole.values import row_key


def came(old, new):
    """Return a new list of the rows of the new answer without as many of each as the old one has."""
    left = {}
    for row in old:
        key = row_key(row)
        left[key] = left.get(key, 0) + 1
    found = []
    for row in new:
        key = row_key(row)
        if left.get(key, 0) > 0:
            left[key] -= 1
        else:
            found.append(row)
    return found


def went(old, new):
    """Return a new list of the rows of the old answer without as many of each as the new one has."""
    return came(new, old)


def change_of(old, new):
    """Return for each row how many more of it the new list has than the old one, without zeros."""
    counts = {}
    for row in new:
        counts[row] = counts.get(row, 0) + 1
    for row in old:
        counts[row] = counts.get(row, 0) - 1
    return _without_zeros(counts)


def join_change(old_left, new_left, old_right, new_right, condition):
    """Return the difference of the join of two lists under a condition, from the differences of the lists."""
    counts = {}
    left = change_of(old_left, new_left)
    right = change_of(old_right, new_right)
    for first in left:
        for second in new_right:
            _count(counts, first + second, left[first], condition)
    for first in old_left:
        for second in right:
            _count(counts, first + second, right[second], condition)
    return _without_zeros(counts)


def _count(counts, row, number, condition):
    if condition(row):
        counts[row] = counts.get(row, 0) + number


def _without_zeros(counts):
    return {row: counts[row] for row in counts if counts[row] != 0}


class Live:
    """A live result: a question that is asked again and again."""

    def __init__(self, tree, parameters):
        self._tree = tree
        self._parameters = list(parameters)
        self._answer = []

    def turn(self, sources):
        """Return the names of the columns, and the rows that came and went since the answer told last."""
        old = self._answer
        names, new = answer(self._tree, sources, self._parameters)
        self._answer = new
        return (names, came(old, new), went(old, new))
