"""Stores: what a replica knows."""

from kithwhole.changes import in_order

SPACES = 4


class Kept:
    """What is kept of a space where the past is cut away."""

    def __init__(self, acts, sums, texts, shares=()):
        self.acts = list(acts)
        self.sums = list(sums)
        self.texts = [(cell, list(characters)) for cell, characters in texts]
        self.shares = list(shares)

    def data(self):
        """Return the four lists as nested tuples."""
        texts = tuple([(cell, tuple(characters)) for cell, characters in self.texts])
        return (tuple(self.acts), tuple(self.sums), texts, tuple(self.shares))


class Store:
    """The changes of a network that are known, and what is kept of those that are cut away."""

    def __init__(self, members):
        self.members = members
        self.cut = [0 for _ in range(members)]
        self.capabilities = []
        self.kept = [Kept([], [], [], []) for _ in range(SPACES)]
        self.changes = [[] for _ in range(members)]

    def count(self, member):
        """Return the number of changes of the member, cut away ones included."""
        return self.cut[member] + len(self.changes[member])

    def counts(self):
        """Return the list of the numbers of changes of all members."""
        return [self.count(member) for member in range(self.members)]

    def find(self, name):
        """Return the change with this name, or None if it is not in the store."""
        author, number = name
        if author not in range(self.members) or number <= self.cut[author]:
            return None
        later = self.changes[author]
        # The numbers have no gap, so the first one tells where each one stands.
        if not later or number - later[0].number not in range(len(later)):
            return None
        return later[number - later[0].number]

    def has(self, name):
        """Return True if the change with this name is in the store or cut away."""
        return is_cut(self, name) or self.find(name) is not None

    def all_changes(self):
        """Return a list of all changes in the store, in their order."""
        return in_order([change for changes in self.changes for change in changes])

    def add(self, change):
        """Append the change to the list of its author, without a check."""
        self.changes[change.author].append(change)

    def copy(self):
        """Return a copy that shares nothing that can be modified."""
        twin = Store(self.members)
        twin.cut = list(self.cut)
        twin.capabilities = list(self.capabilities)
        twin.kept = [_copied(kept) for kept in self.kept]
        twin.changes = [list(changes) for changes in self.changes]
        return twin

    def data(self):
        """Return what the store holds as a nested tuple."""
        kept = tuple([None if of_space is None else of_space.data() for of_space in self.kept])
        changes = [[change.header() + (change.parts,) for change in of_member] for of_member in self.changes]
        listed = tuple([tuple(of_member) for of_member in changes])
        return (tuple(self.cut), tuple(self.capabilities), kept, listed)


def _copied(kept):
    if kept is None:
        return None
    return Kept(kept.acts, kept.sums, kept.texts, kept.shares)


def is_cut(store, name):
    """Return True if the change with this name is cut away."""
    author, number = name
    return author in range(store.members) and 1 <= number <= store.cut[author]


def heard_cut(store, change):
    """Return True if the change had heard everything that is cut away."""
    return all([heard >= cut for heard, cut in zip(change.heard, store.cut)])


def is_whole(store):
    """Return True if the store is whole."""
    counts = store.counts()
    return all([_fits_in(store, counts, change) for change in store.all_changes()])


def _fits_in(store, counts, change):
    heard = change.heard
    if len(heard) != store.members or heard[change.author] != change.number - 1:
        return False
    for member in range(store.members):
        if heard[member] > counts[member]:
            return False
        last = store.find((member, heard[member]))
        if last is not None and not _heard_as_much(change, last):
            return False
    return True


def _heard_as_much(change, other):
    return all([number <= heard for number, heard in zip(other.heard, change.heard)])
