"""Packets that ask and packets that give: what replicas exchange when they meet."""

from kithwhole.codes import (
    write_boolean, write_change, write_kept, write_list, write_number, write_optional, write_past, write_spot,
)
from kithwhole.cutting import before_cut, kept_of, without_past
from kithwhole.errors import DamagedPacket, UnfitPacket
from kithwhole.reading import (
    Reader, read_boolean, read_capability, read_change, read_kept, read_list, read_name, read_number, read_optional,
)
from kithwhole.rights import FOUNDER
from kithwhole.spaces import add_kept, have_one_cut, have_one_story, readable_spaces, with_parts_of, with_some
from kithwhole.store import SPACES, Store, is_cut, is_whole

ASKS = 1
GIVES = 2


def asking(store, member):
    """Return the packet that asks for what the store does not have."""
    data = [ASKS] + write_number(member)
    data = data + write_list(store.cut, write_number) + write_list(store.counts(), write_number)
    for kept in store.kept:
        data.extend(write_boolean(kept is not None))
    for space in range(SPACES):
        names = [change.name() for change in _by_author(store) if change.parts[space] is None]
        data.extend(write_list(names, write_spot))
    return data


def _by_author(store):
    """Return the changes of the store in ascending order of author and number."""
    return [change for changes in store.changes for change in changes]


class Asked:
    """What a packet that asks tells."""

    def __init__(self, reader):
        _read_word(reader, ASKS)
        self.member = reader.read_number()
        self.cut = read_list(reader, read_number)
        self.counts = read_list(reader, read_number)
        self.known = [read_boolean(reader) for _ in range(SPACES)]
        # For each space the names of the changes whose part is not known.
        self.missing = []
        for _ in range(SPACES):
            self.missing.append({name: True for name in read_list(reader, read_name)})
        reader.end()


def _read_word(reader, word):
    if reader.read_number() != word:
        raise DamagedPacket("the packet is of another kind")


def giving(store, packet):
    """Return the packet that gives, as the answer to a packet that asks."""
    asked = Asked(Reader(packet))
    if len(asked.cut) != store.members or len(asked.counts) != store.members or asked.member >= store.members:
        raise DamagedPacket("the packet is of another network")
    readable = readable_spaces(store, asked.member)
    data = [GIVES] + write_past(store)
    for space in range(SPACES):
        wanted = asked.cut[FOUNDER] < store.cut[FOUNDER] or not asked.known[space]
        kept = store.kept[space] if wanted and readable[space] else None
        data.extend(write_optional(kept, write_kept))
    return data + write_list(_given(store, asked, readable), write_change)


def _given(store, asked, readable):
    """Return the changes that are given, with the parts that are given of them."""
    found = []
    for change in _by_author(store):
        if change.number > asked.counts[change.author]:
            found.append(with_some(change, readable))
            continue
        name = change.name()
        told = with_some(change, [may and name in names for may, names in zip(readable, asked.missing)])
        if any([part is not None for part in told.parts]):
            found.append(told)
    return found


def taking(store, packet):
    """Return the new store after taking a packet that gives."""
    past, changes = _read_giving(packet)
    later = _with_past(store, past)
    for change in changes:
        _take(later, change)
    if not is_whole(later):
        raise UnfitPacket("the store would not be whole")
    return later


def _read_giving(packet):
    """Return a store with what the packet tells of the past, and the list of its changes."""
    reader = Reader(packet)
    _read_word(reader, GIVES)
    cut = read_list(reader, read_number)
    past = Store(len(cut))
    past.cut = cut
    past.capabilities = read_list(reader, read_capability)
    past.kept = [read_optional(reader, read_kept) for _ in range(SPACES)]
    changes = read_list(reader, read_change)
    reader.end()
    return (past, changes)


def _with_past(store, past):
    """Return a new store: the store with what the packet tells of the past."""
    if past.members != store.members:
        raise UnfitPacket("the packet is of another network")
    if past.cut[FOUNDER] > store.cut[FOUNDER]:
        return _cut_as(store, past)
    later = store.copy()
    if past.cut[FOUNDER] == store.cut[FOUNDER]:
        if not have_one_cut(store, past):
            raise UnfitPacket("another past is kept of the same cut")
        add_kept(later, past.kept)
    return later


def _cut_as(store, past):
    """Return a new store: the store cut where the packet is cut."""
    if not all([number >= own for number, own in zip(past.cut, store.cut)]):
        raise UnfitPacket("the later cut has less of a member")
    later = without_past(store, past.cut)
    later.capabilities = past.capabilities
    later.kept = past.kept
    if all([number >= told for number, told in zip(store.counts(), past.cut)]):
        before = before_cut(store, past.cut)
        add_kept(later, [kept_of(before, space) for space in range(SPACES)])
    return later


def _take(store, change):
    """Add what the store does not know of a change. This modifies the store."""
    author, number = change.name()
    if author not in range(store.members) or number < 1:
        raise UnfitPacket("there is no such change in the network")
    if is_cut(store, change.name()):
        return
    own = store.find(change.name())
    if own is not None:
        if not have_one_story(own, change):
            raise UnfitPacket("the change is known in another way")
        later = store.changes[author]
        later[number - later[0].number] = with_parts_of(own, change)
    elif number == store.count(author) + 1:
        store.add(change)
    else:
        raise UnfitPacket("the change is not the next one of its author")
