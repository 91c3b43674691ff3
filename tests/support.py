"""What several tests need: networks of changes, written in few words."""

from kithwhole.changes import Change
from kithwhole.rights import verdicts
from kithwhole.sheets import Sheet
from kithwhole.store import SPACES, Store

NO = (False, False, False)
READ = (True, False, False)
WRITE = (False, True, False)
BOTH = (True, True, False)
ALL = (True, True, True)
NO_RIGHTS = (NO, NO, NO, NO)
ALL_RIGHTS = (ALL, ALL, ALL, ALL)
UNKNOWN = "unknown"


def make(author, number, heard, capability=None, publics=(), parts=None):
    """A change; `parts` is a dict of acts for some spaces, or UNKNOWN for a part that is not known."""
    given = parts or {}
    listed = [None if given.get(space) == UNKNOWN else tuple(given.get(space, ())) for space in range(SPACES)]
    return Change(author, number, heard, capability, publics, listed)


class Net:
    """A store that grows change by change. A member hears everything unless it is told otherwise."""

    def __init__(self, members=2):
        self.store = Store(members)

    def change(self, author, acts=(), heard=None, capability=None, publics=(), parts=None):
        """Add a change with these acts in space 0; `heard` is a dict for members it knows less of."""
        counts = self.store.counts()
        for member in heard or {}:
            counts[member] = heard[member]
        given = {0: acts} if parts is None else parts
        change = make(author, self.store.count(author) + 1, counts, capability, publics, given)
        self.store.add(change)
        return change.name()

    def invite(self, *members, rights=ALL_RIGHTS, heard=None):
        """The founder grants rights to members; returns the capabilities."""
        publics = [("grant", member, rights) for member in members]
        name = self.change(0, publics=publics, heard=heard)
        return [name + (place,) for place in range(len(publics))]

    def seal(self, heard=None):
        return self.change(0, publics=[("seal",)], heard=heard)

    def allowed(self):
        return verdicts(self.store)

    def sheet(self, space=0):
        return Sheet(self.store, self.allowed(), space)


def spot(name, place):
    return tuple(name) + (place,)
