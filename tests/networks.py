"""Random networks: replicas that act, pass packets late and twice, trim and lose power."""

import random

from kithwhole.errors import KithwholeError, NothingToTrim, PowerOff, ReplicaClosed, ReplicaOpen, UnfitPacket
from kithwhole.replica import Replica
from kithwhole.rights import held_entries, may_read, verdicts
from kithwhole.store import SPACES
from tests.random_stores import Maker
from tests.support import ALL, BOTH


class Network:
    def __init__(self, seed, members=3, spaces=(0, 1), rude=0.03, seals=0.1, failing=0.04, trimming=0.05,
                 publicity=0.3, late=0.3):
        self.random = random.Random(seed)
        self.maker = Maker(seed, members, spaces, rude, (None, "stock", "letters", "integer")[seed % 4])
        self.maker.publicity = publicity
        self.members = members
        self.spaces = spaces
        self.seals = seals
        self.failing = failing
        self.trimming = trimming
        # How many packets are not taken at once.
        self.late = late
        self.replicas = [Replica(member, members) for member in range(members)]
        self.packets = []
        self.happened = {}
        # What packets told although the member who asked might not read it.
        self.leaks = []

    def happen(self, word):
        self.happened[word] = self.happened.get(word, 0) + 1

    def chance(self, part):
        return self.random.random() < part

    def start(self):
        """The founder makes a table in each space and invites the others, not to all spaces."""
        rights = []
        for member in range(1, self.members):
            publics = tuple(self.random.choice([ALL, ALL, BOTH, (False, True, False), (False, False, False)])
                            for _ in range(SPACES))
            rights.append(("grant", member, publics))
        parts = {}
        for space in self.spaces:
            acts = [("table", "a")]
            for holds in ("integer", "text", "counter", "stock", "letters", ("refer", (0, 1, 0))):
                acts.append(("column", (0, 1, 0), f"c{len(acts)}", holds))
            acts += [("row", (0, 1, 0)), ("row", (0, 1, 0)), ("unique", (0, 1, 0), ((0, 1, 1),)),
                     ("add", (0, 1, 7), (0, 1, 4), 20)]
            acts += [("lend", (0, 1, 7), (0, 1, 4), member, 4) for member in range(1, self.members)]
            parts[space] = acts
            for place, act in enumerate(acts):
                self.maker.note(space, (0, 1, place), act)
        self.replicas[0].act(None, rights, parts)
        self.maker.grants += [((0, 1, place), act[1]) for place, act in enumerate(rights)]

    def store(self, member):
        return self.replicas[member]._store

    def run(self, steps):
        for _ in range(steps):
            member = self.random.randrange(self.members)
            try:
                self.step(member)
            except (PowerOff, ReplicaClosed):
                self.happen("dark")
                self.revive(member)
        for member in range(self.members):
            try:
                self.replicas[member].status()
                self.replicas[member].fail_after(10 ** 9)
            except (PowerOff, ReplicaClosed):
                self.revive(member)

    def step(self, member):
        replica = self.replicas[member]
        if self.chance(self.failing):
            replica.fail_after(self.random.choice([0, 1, 5, 30, 100, 300]))
        if self.chance(self.failing / 3):
            replica.power(self.random.randrange(50), self.random.randrange(50))
        if self.chance(self.trimming):
            try:
                replica.trim()
                self.happen("trim")
            except NothingToTrim:
                pass
        kind = self.random.random()
        if kind < 0.45:
            self.act(member)
        elif kind < 0.75:
            self.ask(member, self.random.randrange(self.members))
        elif self.packets:
            self.take(member, self.random.choice(self.packets[-6:] if self.chance(0.5) else self.packets))

    def revive(self, member):
        replica = self.replicas[member]
        while True:
            try:
                replica.power(self.random.randrange(2000), self.random.randrange(2000))
                replica.open_again()
                return
            except (PowerOff, ReplicaOpen):
                continue

    def act(self, member):
        """A random change with a capability that the member holds."""
        replica, store = self.replicas[member], self.store(member)
        allowed = verdicts(store)
        held = [(None, (ALL,) * SPACES)] if member == 0 else [
            (entry[0], entry[3]) for entry in held_entries(store, allowed) if entry[2] == member]
        if not held:
            return
        capability, rights = self.random.choice(held)
        heard, number = store.counts(), store.count(member) + 1
        before = {space: {kind: len(things) for kind, things in self.maker.things[space].items()} for space in self.spaces}
        parts = {space: self.maker.part(space, member, number, heard) for space in self.spaces
                 if rights[space][1] and self.chance(0.8)}
        publics = self.maker.publics(member, number, heard, self.seals)
        for given in (publics, []):
            try:
                replica.act(capability, given, parts)
                self.happen("act")
                for place, act in enumerate(given):
                    if act[0] == "grant":
                        self.maker.grants.append(((member, number, place), act[1]))
                return
            except (PowerOff, ReplicaClosed):
                raise
            except KithwholeError as error:
                self.happen(type(error).__name__)
        for space in self.spaces:
            for kind, many in before[space].items():
                del self.maker.things[space][kind][many:]

    def ask(self, member, other):
        """The member asks the other one; the answer may be taken at once, later, or never, by anybody."""
        asked = self.replicas[member].have()
        try:
            packet = self.replicas[other].answer(asked)
        except (PowerOff, ReplicaClosed):
            self.happen("dark")
            self.revive(other)
            return
        self.check_secrets(member, other, packet)
        self.packets.append(packet)
        if not self.chance(self.late):
            self.take(member, packet)

    def check_secrets(self, member, other, packet):
        store = self.store(other)
        allowed = verdicts(store)
        kept, changes = told_by(packet)
        for space in range(SPACES):
            told = kept[space] is not None or any(change.parts[space] is not None for change in changes)
            if told and not may_read(store, allowed, member, space):
                self.leaks.append((member, other, space))

    def take(self, member, packet):
        try:
            self.replicas[member].take(packet)
            self.happen("take")
        except UnfitPacket:
            self.happen("unfit")

    def settle(self):
        """All replicas are opened, and all meet until nobody learns anything more."""
        for member in range(self.members):
            self.replicas[member].power(10 ** 6, 10 ** 6)
            self.replicas[member].open_again()
        before = None
        while before != [self.store(member).data() for member in range(self.members)]:
            before = [self.store(member).data() for member in range(self.members)]
            for member in range(self.members):
                for other in range(self.members):
                    if member != other:
                        packet = self.replicas[other].answer(self.replicas[member].have())
                        self.check_secrets(member, other, packet)
                        self.replicas[member].take(packet)


def told_by(packet):
    """What is kept, and the changes, of a packet that gives."""
    from kithwhole.reading import Reader, read_capability, read_change, read_kept, read_list, read_number, read_optional

    reader = Reader(packet)
    assert reader.read_number() == 2
    read_list(reader, read_number)
    read_list(reader, read_capability)
    kept = [read_optional(reader, read_kept) for _ in range(SPACES)]
    return kept, read_list(reader, read_change)
