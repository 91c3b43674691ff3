"""Whether a change that is made next would count."""

from kithwhole.changes import Change
from kithwhole.rights import WRITE, capability_info, is_held, verdicts


def next_change(store, member, capability, publics, parts):
    """Return the next change of the member, which has heard everything in the store."""
    return Change(member, store.count(member) + 1, store.counts(), capability, publics, parts)


def with_change(store, change):
    """Return a new store that has this change besides."""
    later = store.copy()
    later.add(change)
    return later


def would_count(store, change, spaces):
    """Return True if the next change of its author would count in each of the spaces."""
    # What is allowed is fit, too.
    if not verdicts(with_change(store, change))[change.name()]:
        return False
    rights = capability_info(store, change.capability)[2]
    if not all([rights[space][WRITE] for space in spaces]):
        return False
    return is_held(store, verdicts(store), change.capability)
