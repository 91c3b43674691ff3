"""The changes that the others can make against a member that spends more than its share."""

from kithwhole.changes import Change
from kithwhole.rights import FOUNDER, writing_capabilities
from kithwhole.sheets import Sheet
from kithwhole.stocks import shares
from kithwhole.store import SPACES

NO_RIGHTS = (False, False, False)
READ_AND_WRITE = (True, True, False)


def danger(store, allowed, space, row, column, member, amount):
    """Return the changes with which the others spend their shares, or None if the member's share is enough."""
    held = shares(Sheet(store, allowed, space), row, column)
    if held[member] >= amount:
        return None
    counts = store.counts()
    changes = []
    for other, share in enumerate(held):
        if other == member or share == 0:
            continue
        capabilities = writing_capabilities(store, allowed, other, space)
        if len(capabilities) == 0 and member == FOUNDER:
            continue
        if len(capabilities) == 0:
            grant = _next(counts, FOUNDER, None, [("grant", other, _rights(space))], _parts(space, ()))
            capabilities = [grant.name() + (0,)]
            changes.append(grant)
        spend = ("spend", row, column, share)
        changes.append(_next(counts, other, capabilities[0], (), _parts(space, (spend,))))
    return changes


def _next(counts, author, capability, publics, parts):
    """Return the next change of the author, which has heard all that is counted, and count it."""
    change = Change(author, counts[author] + 1, counts, capability, publics, parts)
    counts[author] += 1
    return change


def _rights(space):
    return tuple([READ_AND_WRITE if each == space else NO_RIGHTS for each in range(SPACES)])


def _parts(space, acts):
    return [acts if each == space else () for each in range(SPACES)]
