"""Replicas: the store, the files and the power of one member."""

from kithwhole.cells import is_integer_value
from kithwhole.counting import next_change, with_change, would_count
from kithwhole.cutting import cut_at, is_known, is_known_to, last_seal
from kithwhole.danger import danger
from kithwhole.errors import (
    InvalidArgument, NothingToTrim, PowerOff, ReplicaClosed, ReplicaOpen, ShortStock, UncountedChange,
)
from kithwhole.files import File
from kithwhole.kinds import check
from kithwhole.lenses import through
from kithwhole.live import Live
from kithwhole.log import change_note, log_start, packet_note, read_log, which_counts
from kithwhole.meaning import answer
from kithwhole.moments import at, history
from kithwhole.packets import asking, giving, taking
from kithwhole.parser import parse
from kithwhole.plans import plan_of
from kithwhole.rights import may_read, verdicts
from kithwhole.sheets import Sheet
from kithwhole.sources import all_sources
from kithwhole.stocks import shares, shorts
from kithwhole.store import SPACES, Store
from kithwhole.why import rests_on, ways
from kithwhole.yielding import conflicts

MOST_MEMBERS = 6


class Replica:
    """The replica of a member of a network."""

    def __init__(self, member, members):
        if not is_integer_value(members) or not 1 <= members <= MOST_MEMBERS:
            raise InvalidArgument("a network has from 1 to 6 members")
        if not is_integer_value(member) or member not in range(members):
            raise InvalidArgument("there is no such member")
        self._member = member
        self._members = members
        self._store = Store(members)
        self._files = [File(), File()]
        self._counting = 0
        self._turn = 1
        self._has_power = True
        self._is_running = True
        # How many steps are left until power fails, or None.
        self._left = None
        self._start_log(0)

    # changes

    def act(self, capability, publics, parts):
        """Make a change and return its name."""
        self._check()
        listed = [parts.get(space, ()) for space in range(SPACES)]
        change = next_change(self._store, self._member, capability, publics, listed)
        if not would_count(self._store, change, [space for space in range(SPACES) if len(listed[space]) > 0]):
            raise UncountedChange("the change would not count")
        later = with_change(self._store, change)
        _check_stocks(later, change)
        self._write(self._counting, change_note(change))
        self._store = later
        return change.name()

    def through(self, capability, space, lens, edits):
        """Make a change with the acts of edits through a lens, and return its name."""
        self._check()
        return self.act(capability, [], {space: through(self._store, self._member, capability, space, lens, edits)})

    # packets

    def have(self):
        """Return a packet that asks."""
        self._check()
        self._flush(self._counting)
        return asking(self._store, self._member)

    def answer(self, packet):
        """Return a packet that gives, as the answer to one that asks."""
        self._check()
        given = giving(self._store, packet)
        self._flush(self._counting)
        return given

    def take(self, packet):
        """Take a packet that gives."""
        self._check()
        later = taking(self._store, packet)
        self._write(self._counting, packet_note(packet))
        self._store = later

    # questions

    def ask(self, text, parameters=(), moment=None):
        """Return the names of the columns and the rows of the answer of a question, now or at a moment."""
        self._check()
        store = self._store if moment is None else at(self._store, moment)
        return answer(parse(text), all_sources(store), list(parameters))

    def history(self, text, parameters=()):
        """Check the question and return its history."""
        tree = self._checked(text, parameters, self.sources())
        return history(self._store, tree, list(parameters))

    def plan(self, text, parameters=()):
        """Check the question and return the plan of its query."""
        sources = self.sources()
        return plan_of(self._checked(text, parameters, sources)[1], sources)

    def live(self, text, parameters=()):
        """Check the question and return a live result of it."""
        return Watch(self, Live(self._checked(text, parameters, self.sources()), parameters))

    def why(self, text, parameters, row):
        """Return the ways of a row, each a list of triples of source, row and the changes on which it rests."""
        sources = self.sources()
        allowed = verdicts(self._store)
        told = []
        for way in ways(parse(text), sources, list(parameters), row):
            told.append([(source, each, rests_on(self._store, allowed, source, each)) for source, each in way])
        return told

    def sources(self):
        """Return the sources of the store, of an open replica."""
        self._check()
        return all_sources(self._store)

    def _checked(self, text, parameters, sources):
        """Return the tree of a question that passes the check."""
        tree = parse(text)
        check(tree, sources, list(parameters))
        return tree

    # what is told of the store besides

    def shares(self, space, row, column):
        """Return the shares of all members in a cell."""
        self._check()
        return shares(self._sheet(space), row, column)

    def danger(self, space, row, column, amount):
        """Return the changes with which the others spend their shares, or None if the own share is enough."""
        self._check()
        return danger(self._store, verdicts(self._store), space, row, column, self._member, amount)

    def conflicts(self, space):
        """Return the conflicts of a space."""
        self._check()
        return conflicts(self._sheet(space))

    def verdict(self, name):
        """Return whether a change in the store is allowed, or None if it is not in the store."""
        self._check()
        return verdicts(self._store).get(name)

    def status(self):
        """Return the counts, the cut, and which spaces are fully known."""
        self._check()
        known = [is_known(self._store, space) for space in range(SPACES)]
        return (self._store.counts(), list(self._store.cut), known)

    def _sheet(self, space):
        return Sheet(self._store, verdicts(self._store), space)

    # files and power

    def trim(self):
        """Cut the store at its last allowed seal."""
        self._check()
        seal = last_seal(self._store)
        if seal is None or not self._is_known_to(seal):
            raise NothingToTrim("there is no allowed seal up to which all is known")
        later = cut_at(self._store, seal)
        before, after = self._counting, 1 - self._counting
        self._shorten(after, 0)
        self._write(after, log_start(self._turn + 1, later))
        self._flush(after)
        self._shorten(before, 0)
        self._counting = after
        self._turn += 1
        self._store = later

    def _is_known_to(self, seal):
        """Return True if all spaces that the member may read are known up to the seal."""
        allowed = verdicts(self._store)
        readable = [space for space in range(SPACES) if may_read(self._store, allowed, self._member, space)]
        return all([is_known_to(self._store, space, seal) for space in readable])

    def flush(self):
        """Flush the file that counts."""
        self._check()
        self._flush(self._counting)

    def fail_after(self, steps):
        """Let power fail after a number of further steps."""
        self._check_power()
        self._left = steps

    def power(self, first, second):
        """Let power fail if it has not yet, with so many steps of each file arrived, and turn it on again."""
        self._files[0].lose(first)
        self._files[1].lose(second)
        self._is_running = False
        self._has_power = True
        self._left = None

    def open_again(self):
        """Read both files and open the closed replica."""
        self._check_power()
        if self._is_running:
            raise ReplicaOpen("the replica is open")
        told = self._read_logs()
        if told[0] is None and told[1] is None:
            self._shorten(0, 0)
            self._shorten(1, 0)
            self._start_log(0)
            told = self._read_logs()
        counting = which_counts(told[0], told[1])
        turn, store, size = told[counting]
        self._shorten(counting, size)
        self._flush(counting)
        self._shorten(1 - counting, 0)
        self._counting = counting
        self._turn = turn
        self._store = store
        self._is_running = True

    def log(self, index):
        """Return the content of the first or the second file."""
        return self._files[index].content()

    def _read_logs(self):
        """Return the list of what both files tell."""
        return [read_log(file.content(), self._members) for file in self._files]

    def _start_log(self, index):
        """Write a log of an empty store with turn 1 and flush it."""
        self._write(index, log_start(1, Store(self._members)))
        self._flush(index)

    def _check_power(self):
        if not self._has_power:
            raise PowerOff("the power is off")

    def _check(self):
        self._check_power()
        if not self._is_running:
            raise ReplicaClosed("the replica is closed")

    def _write(self, index, data):
        self._count(self._files[index].write(data, self._left), len(data))

    def _shorten(self, index, size):
        self._count(self._files[index].shorten(size, self._left), 1)

    def _flush(self, index):
        self._count(self._files[index].flush(self._left), 1)

    def _count(self, done, needed):
        """Count the steps that were done; if there were fewer than needed, power fails."""
        if self._left is not None:
            self._left -= done
        if done < needed:
            self._has_power = False
            self._is_running = False
            raise PowerOff("the power failed")


class Watch:
    """A live result of a replica."""

    def __init__(self, replica, live):
        self._replica = replica
        self._live = live

    def turn(self):
        """Return the names of the columns, and the rows that came and went since the answer told last."""
        return self._live.turn(self._replica.sources())


def _check_stocks(store, change):
    """Raise ShortStock with what the first act of the change lacks that is short in the store."""
    allowed = verdicts(store)
    for space in range(SPACES):
        if not any([act[0] in ("spend", "lend") for act in change.parts[space]]):
            continue
        for spot, missing in shorts(Sheet(store, allowed, space)):
            if spot[:2] == change.name():
                raise ShortStock(missing)
