"""Random things that can be written, for tests of what is written and read."""

from kithwhole.changes import Change
from kithwhole.store import SPACES, Kept, Store

SIGNS = "\n" + "".join(chr(code) for code in range(32, 127) if code != 37)


class Data:
    def __init__(self, chance):
        self.chance = chance

    def number(self):
        return self.chance.choice([0, 1, 2, 127, 128, 300, 16383, 16384, 10 ** 14, 10 ** 40])

    def integer(self):
        return self.chance.choice([1, -1]) * self.number()

    def truth(self):
        return self.chance.random() < 0.5

    def string(self, most=3):
        return "".join(self.chance.choice(SIGNS) for _ in range(self.chance.randrange(most)))

    def value(self):
        return self.chance.choice([None, True, False, self.integer(), self.string()])

    def name(self, parts=2):
        return tuple(self.number() for _ in range(parts))

    def spot(self):
        return self.name(3)

    def mark(self):
        return self.name(4)

    def several(self, make, most=3):
        return tuple(make() for _ in range(self.chance.randrange(most)))

    def maybe(self, make):
        return make() if self.truth() else None

    def holds(self):
        return self.chance.choice(["integer", "text", "boolean", "counter", "letters", "stock", ("refer", self.spot())])

    def act(self):
        spot = self.spot
        return self.chance.choice([
            lambda: ("table", self.string()), lambda: ("column", spot(), self.string(), self.holds()),
            lambda: ("unique", spot(), self.several(spot)), lambda: ("row", spot()), lambda: ("drop", spot()),
            lambda: ("put", spot(), spot(), self.value()), lambda: ("refer", spot(), spot(), self.maybe(spot)),
            lambda: ("add", spot(), spot(), self.integer()),
            lambda: ("insert", spot(), spot(), self.maybe(self.mark), self.string()),
            lambda: ("remove", self.mark()), lambda: ("undo", self.name()),
            lambda: ("spend", spot(), spot(), self.integer()),
            lambda: ("lend", spot(), spot(), self.number(), self.integer()),
            lambda: ("lens", self.string(), spot(), self.several(lambda: (spot(), self.string())),
                     self.several(lambda: (spot(), self.value())))])()

    def rights(self):
        return tuple(tuple(self.truth() for _ in range(3)) for _ in range(SPACES))

    def public(self):
        return self.chance.choice([("grant", self.number(), self.rights()), ("revoke", self.maybe(self.spot)), ("seal",)])

    def part(self):
        return self.maybe(lambda: self.several(self.act))

    def change(self, author=None, number=None):
        author = self.number() if author is None else author
        number = self.number() if number is None else number
        return Change(author, number, self.several(self.number, 4), self.maybe(self.spot), self.several(self.public),
                      [self.part() for _ in range(SPACES)])

    def cell(self):
        return (self.spot(), self.spot())

    def kept(self):
        return Kept(self.several(lambda: (self.spot(), self.act())), self.several(lambda: (self.cell(), self.integer())),
                    self.several(lambda: (self.cell(), list(self.several(lambda: (self.mark(), self.chance.choice(SIGNS)))))),
                    self.several(lambda: (self.cell() + (self.number(),), self.number())))

    def capability(self):
        return (self.spot(), self.maybe(self.spot), self.number(), self.rights())

    def store(self):
        store = Store(self.chance.randrange(1, 7))
        store.cut = [self.chance.choice([0, 0, 1, 200]) for _ in range(store.members)]
        store.capabilities = list(self.several(self.capability))
        store.kept = [self.maybe(self.kept) for _ in range(SPACES)]
        for member in range(store.members):
            for _ in range(self.chance.choice([0, 0, 1, 2])):
                store.add(self.change(member, store.count(member) + 1))
        return store


def spoilt(chance, data):
    """The bytes with one changed, put in, left out, cut off or put behind."""
    place = chance.randrange(len(data))
    kind = chance.choice(["change", "change", "put", "leave", "cut", "behind"])
    byte = chance.choice([0, 1, 2, 127, 128, 129, 255, chance.randrange(256)])
    if kind == "change":
        return data[:place] + [byte] + data[place + 1:]
    if kind == "put":
        return data[:place] + [byte] + data[place:]
    if kind == "leave":
        return data[:place] + data[place + 1:]
    return data[:place] if kind == "cut" else data + [byte]
