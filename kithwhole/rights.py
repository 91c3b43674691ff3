"""Capabilities, verdicts, and who may read and write a space."""

from kithwhole.changes import in_past, related
from kithwhole.store import heard_cut

FOUNDER = 0
READ = 0
WRITE = 1
ALL_RIGHTS = ((True, True, True), (True, True, True), (True, True, True), (True, True, True))


def capability_info(store, capability):
    """Return the parent, the holder and the rights of a capability, or None if it is not there."""
    if not _is_there(store, capability):
        return None
    return _stated(store, capability)


def is_above(store, first, second):
    """Return True if both capabilities are there and the first one is above the second one."""
    return first in _path(store, second)


def is_fit(store, change):
    """Return True if the change is fit in the store."""
    capability = change.capability
    info = capability_info(store, capability)
    if info is None or not heard_cut(store, change):
        return False
    _, holder, rights = info
    if change.author != holder:
        return False
    if _is_granted(store, capability) and not in_past(capability[:2], change):
        return False
    if capability is not None and has_seal(change):
        return False
    return all([_may_give(rights, act[2]) for act in change.publics if act[0] == "grant"])


def has_seal(change):
    """Return True if the change has a seal among its public acts."""
    return any([act[0] == "seal" for act in change.publics])


def revoked_by(store, change):
    """Return the list of the capabilities that the change revokes effectively, each once."""
    revoked = []
    for act in change.publics:
        if act[0] == "revoke" and act[1] not in revoked and _revokes(store, change, act[1]):
            revoked.append(act[1])
    return revoked


def verdicts(store):
    """Return for the name of each change in the store whether it is allowed."""
    changes = store.all_changes()
    paths = {change.capability: _path(store, change.capability) for change in changes}
    fit = [change for change in changes if is_fit(store, change)]
    # Every fit change with a seal is allowed, so the seals need not be decided first.
    seals = [change for change in fit if has_seal(change)]
    allowed = {change.name(): False for change in changes}
    revocations = []
    # A verdict rests only on changes with capabilities higher up in the tree.
    ranked = sorted([(len(paths[change.capability]), place) for place, change in enumerate(fit)])
    for _, place in ranked:
        change = fit[place]
        if not _is_backed(store, allowed, change.capability) or not stands_by(seals, change):
            continue
        if _is_revoked(revocations, paths[change.capability], change):
            continue
        allowed[change.name()] = True
        revocations.append((change, revoked_by(store, change)))
    return allowed


def stands_by(seals, change):
    """Return True if the change is each of the seals or related to it."""
    return all([seal.name() == change.name() or related(seal, change) for seal in seals])


def is_held(store, allowed, capability):
    """Return True if the capability is held."""
    return _is_held(store, allowed, _all_revoked(store, allowed), capability)


def may_read(store, allowed, member, space):
    """Return True if the member may read the space."""
    return member == FOUNDER or len(_with_right(store, allowed, member, space, READ)) > 0


def counts_in(store, allowed, change, space):
    """Return True if the change is allowed and its capability may write the space."""
    if not _is_allowed(allowed, change):
        return False
    rights = capability_info(store, change.capability)[2]
    return rights[space][WRITE]


def writing_capabilities(store, allowed, member, space):
    """Return the list of the capabilities with which the member may write the space."""
    if member == FOUNDER:
        return [None]
    return _with_right(store, allowed, member, space, WRITE)


def allowed_seals(store, allowed):
    """Return the list of the allowed changes with a seal, in their order."""
    return [change for change in store.all_changes() if has_seal(change) and _is_allowed(allowed, change)]


def _is_allowed(allowed, change):
    return allowed.get(change.name(), False)


def _kept_entry(store, capability):
    for entry in store.capabilities:
        if entry[0] == capability:
            return entry
    return None


def _is_granted(store, capability):
    """Return True if only a change in the store can have granted the capability."""
    return capability is not None and _kept_entry(store, capability) is None


def _stated(store, capability):
    """Return parent, holder and rights as they are stated, whether or not the parents are there."""
    if capability is None:
        return (None, FOUNDER, ALL_RIGHTS)
    entry = _kept_entry(store, capability)
    if entry is not None:
        return (entry[1], entry[2], entry[3])
    change = store.find(capability[:2])
    if change is None or capability[2] not in range(len(change.publics)):
        return None
    act = change.publics[capability[2]]
    if act[0] != "grant":
        return None
    return (change.capability, act[1], act[2])


def _is_there(store, capability):
    passed = {}
    while _is_granted(store, capability):
        stated = _stated(store, capability)
        # A change may name a capability that rests on itself; such a chain reaches nothing.
        if stated is None or capability in passed:
            return False
        passed[capability] = True
        capability = stated[0]
    return True


def _path(store, capability):
    """Return the capabilities from this one upwards, as far as they are there."""
    path = []
    there = _is_there(store, capability)
    while there and capability not in path:
        path.append(capability)
        granted = _is_granted(store, capability)
        capability = _stated(store, capability)[0]
        # Only the parent of a kept capability may be missing.
        there = granted or _is_there(store, capability)
    return path


def _may_give(own, given):
    return all([_may_pass(held, asked) for held, asked in zip(own, given)])


def _may_pass(held, asked):
    read, write, give = held
    wants_read, wants_write, wants_give = asked
    if wants_read and not (read and give):
        return False
    if wants_write and not (write and give):
        return False
    return give or not wants_give


def _revokes(store, change, capability):
    if capability == change.capability or not is_above(store, change.capability, capability):
        return False
    return not _is_granted(store, capability) or in_past(capability[:2], change)


def _is_backed(store, allowed, capability):
    """Return True if the capability needs no change that granted it, or that change is allowed."""
    return not _is_granted(store, capability) or allowed.get(capability[:2], False)


def _is_revoked(revocations, path, change):
    """Return True if a capability of the path is revoked by a change that had not heard of this one."""
    for revoker, revoked in revocations:
        if any([capability in path for capability in revoked]) and not in_past(change.name(), revoker):
            return True
    return False


def _all_revoked(store, allowed):
    """Return a dict with each capability that an allowed change revokes effectively."""
    revoked = {}
    for change in store.all_changes():
        if _is_allowed(allowed, change):
            for capability in revoked_by(store, change):
                revoked[capability] = True
    return revoked


def _is_held(store, allowed, revoked, capability):
    if not _is_there(store, capability) or not _is_backed(store, allowed, capability):
        return False
    return not any([above in revoked for above in _path(store, capability)])


def _all_capabilities(store):
    """Return all capabilities but None that are kept or granted by a change in the store, ascending."""
    found = [entry[0] for entry in store.capabilities]
    for change in store.all_changes():
        for place, act in enumerate(change.publics):
            if act[0] == "grant":
                found.append(change.name() + (place,))
    return sorted(found)


def held_entries(store, allowed):
    """Return the tuples of capability, parent, holder and rights of all that are held but None, ascending."""
    revoked = _all_revoked(store, allowed)
    held = [each for each in _all_capabilities(store) if _is_held(store, allowed, revoked, each)]
    return [(capability,) + _stated(store, capability) for capability in held]


def _with_right(store, allowed, member, space, right):
    """Return the capabilities with this right that are held and whose holder is the member."""
    entries = [entry for entry in held_entries(store, allowed) if entry[2] == member]
    return [capability for capability, _, _, rights in entries if rights[space][right]]
