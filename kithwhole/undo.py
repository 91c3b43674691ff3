"""What an act knows, which changes are undone, and which acts are effective."""

from kithwhole.changes import in_past
from kithwhole.rights import allowed_seals, counts_in
from kithwhole.store import is_cut


def knows(store, spot, other):
    """Return True if the act with the first spot, of a change in the store, knows the other act."""
    change = store.find(spot[:2])
    if change is None:
        return False
    if other[:2] == spot[:2]:
        return other[2] < spot[2]
    return is_cut(store, other[:2]) or in_past(other[:2], change)


def is_closed(store, allowed, spot, name):
    """Return True if the change with this name is closed for the act with the spot."""
    if is_cut(store, name):
        return True
    change = store.find(spot[:2])
    return change is not None and is_closed_for(store, allowed_seals(store, allowed), change, name)


def is_closed_for(store, seals, change, name):
    """Return True if the change with this name is closed for the acts of the change, given the seals."""
    if is_cut(store, name):
        return True
    return any([seals_off(seal, name) for seal in seals if in_past(seal.name(), change)])


def seals_off(seal, name):
    """Return True if the seal is the change with this name, or has it in its past."""
    return seal.name() == name or in_past(name, seal)


def undone_by(store, allowed, change, space):
    """Return the list of the names of the changes that the change undoes in the space, each once."""
    return _undone(store, allowed_seals(store, allowed), change, space)


def _undone(store, seals, change, space):
    undone = []
    for act in part_of(change, space):
        if act[0] != "undo" or act[1] in undone or not in_past(act[1], change):
            continue
        if not is_closed_for(store, seals, change, act[1]):
            undone.append(act[1])
    return undone


def part_of(change, space):
    """Return the acts of the change in the space that are known."""
    part = change.parts[space]
    return () if part is None else part


def taking_effect(store, allowed, space):
    """Return for the name of each change in the store whether it takes effect in the space."""
    seals = allowed_seals(store, allowed)
    changes = store.all_changes()
    undone = {}
    effect = {change.name(): False for change in changes}
    # What undoes a change comes after it.
    for change in reversed(changes):
        if change.name() not in undone and counts_in(store, allowed, change, space):
            effect[change.name()] = True
            for name in _undone(store, seals, change, space):
                undone[name] = True
    return effect


def effective_acts(store, allowed, space):
    """Return the list of pairs of a spot and an act that are effective in the space."""
    return acts_of(store, taking_effect(store, allowed, space), space)


def acts_of(store, effect, space):
    """Return the effective acts of the space, given which changes take effect there."""
    kept = store.kept[space]
    acts = [] if kept is None else list(kept.acts)
    for change in store.all_changes():
        if effect[change.name()]:
            for place, act in enumerate(part_of(change, space)):
                acts.append((change.name() + (place,), act))
    return acts
