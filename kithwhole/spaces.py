"""What is shown of a store to a member, and stores that agree and are joined."""

from kithwhole.alike import alike
from kithwhole.rights import may_read, verdicts
from kithwhole.store import SPACES, Kept


def readable_spaces(store, member):
    """Return for each space whether the member may read it by the store."""
    allowed = verdicts(store)
    return [may_read(store, allowed, member, space) for space in range(SPACES)]


def shown_to(store, member):
    """Return a new store: what is shown of the store to the member."""
    readable = readable_spaces(store, member)
    shown = store.copy()
    shown.kept = [kept if may else None for kept, may in zip(shown.kept, readable)]
    shown.changes = [[with_some(change, readable) for change in of_member] for of_member in store.changes]
    return shown


def with_some(change, wanted):
    """Return the change with its parts of the spaces that are wanted, and without the other ones."""
    return change.with_parts([part if may else None for part, may in zip(change.parts, wanted)])


def agree(first, second):
    """Return True if the two stores agree."""
    if first.members != second.members or not have_one_cut(first, second):
        return False
    for change in first.all_changes():
        other = second.find(change.name())
        if other is not None and not have_one_story(change, other):
            return False
    return True


def have_one_cut(first, second):
    """Return True if both have the same cut, and the same is kept as far as both know it."""
    if not alike(list(first.cut), list(second.cut)):
        return False
    if not alike(tuple(first.capabilities), tuple(second.capabilities)):
        return False
    return all([_fit(_data(one), _data(other)) for one, other in zip(first.kept, second.kept)])


def _data(kept):
    return None if kept is None else kept.data()


def _fit(one, other):
    """Return True if the two are alike, or one of them is not known."""
    return one is None or other is None or alike(one, other)


def have_one_story(change, other):
    """Return True if two changes of one name have one header, and the parts that both know are equal."""
    if not alike(change.header(), other.header()):
        return False
    return all([_fit(part, known) for part, known in zip(change.parts, other.parts)])


def joined(first, second):
    """Return the joined store of two stores that agree, a new one."""
    store = first.copy()
    add_kept(store, second.kept)
    for member in range(store.members):
        many = len(store.changes[member])
        own = [with_parts_of(change, second.find(change.name())) for change in store.changes[member]]
        store.changes[member] = own + second.changes[member][many:]
    return store


def add_kept(store, kept):
    """Add to the store what is kept of spaces where the store does not know it. This modifies the store."""
    for space, more in enumerate(kept):
        if store.kept[space] is None and more is not None:
            store.kept[space] = Kept(more.acts, more.sums, more.texts, more.shares)


def with_parts_of(change, other):
    """Return the change with the parts besides that only the other one knows, which may be None."""
    if other is None:
        return change
    parts = [more if part is None else part for part, more in zip(change.parts, other.parts)]
    return change.with_parts(parts)
