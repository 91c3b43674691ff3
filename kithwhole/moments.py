"""Moments: a store as it was with fewer changes, and what a question told along the way."""

from kithwhole.cells import is_integer_value
from kithwhole.errors import ForgottenPast, NoMoment, QuestionError
from kithwhole.live import came, went
from kithwhole.meaning import answer
from kithwhole.sources import all_sources


def is_moment(store, counts):
    """Return True if the counts are a moment of the store."""
    if not _is_count(store, counts) or _is_cut(store, counts):
        return False
    return all([_is_heard(change.heard, counts) for change in _changes_of(store, counts)])


def _is_count(store, counts):
    """Return True if there is one integer for each member, none greater than the member's count."""
    if len(counts) != store.members or not all([is_integer_value(number) for number in counts]):
        return False
    return all([number <= count for number, count in zip(counts, store.counts())])


def _is_cut(store, counts):
    return any([number < cut for number, cut in zip(counts, store.cut)])


def _is_heard(heard, counts):
    return all([number <= count for number, count in zip(heard, counts)])


def _changes_of(store, counts):
    return [change for change in store.all_changes() if change.number <= counts[change.author]]


def at(store, counts):
    """Return the store at a moment, a new one."""
    if not _is_count(store, counts):
        raise NoMoment("there is not one number for each member that its changes reach")
    if _is_cut(store, counts):
        raise ForgottenPast("the moment is cut away")
    if not is_moment(store, counts):
        raise NoMoment("a change had heard more than the moment has")
    past = store.copy()
    for member, number in enumerate(counts):
        past.changes[member] = [change for change in past.changes[member] if change.number <= number]
    return past


def meet(first, second):
    """Return the lesser numbers of two moments."""
    return [min(one, other) for one, other in zip(first, second)]


def join(first, second):
    """Return the greater numbers of two moments."""
    return [max(one, other) for one, other in zip(first, second)]


def moment_of(store, name):
    """Return the moment with the fewest changes that has the change with this name."""
    author, number = name
    counts = join(store.cut, store.find(name).heard)
    counts[author] = number
    return counts


def chain(store):
    """Return the moments of the chain: all changes of the store, taken one after another."""
    counts = list(store.cut)
    moments = [list(counts)]
    for change in store.all_changes():
        counts[change.author] = change.number
        moments.append(list(counts))
    return moments


def between(store, first, second, tree, parameters):
    """Return the rows that come and those that go from the one moment to the other one."""
    old = _rows_at(store, first, tree, parameters)
    new = _rows_at(store, second, tree, parameters)
    return (came(old, new), went(old, new))


def _rows_at(store, counts, tree, parameters):
    """Return the rows of the answer at the moment; a question that is refused there has none."""
    sources = all_sources(at(store, counts))
    try:
        return answer(tree, sources, parameters)[1]
    except QuestionError:
        return []


def history(store, tree, parameters):
    """Return for each moment of the chain at which rows come or go its change, and these rows."""
    names = [None] + [change.name() for change in store.all_changes()]
    told = []
    old = []
    for name, counts in zip(names, chain(store)):
        new = _rows_at(store, counts, tree, parameters)
        if len(came(old, new)) > 0 or len(went(old, new)) > 0:
            told.append((name, came(old, new), went(old, new)))
        old = new
    return told
