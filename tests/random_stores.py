"""Random whole stores, for tests that compare answers. Each seed gives one store."""

import random

from kithwhole.store import SPACES, Store
from tests.support import make

HOLDS = ["integer", "text", "boolean", "counter", "stock", "letters"]
NAMES = ["a", "b", "id"]


class Maker:
    def __init__(self, seed, members=3, spaces=(0, 1), rude=0.1, focus=None):
        self.random = random.Random(seed)
        self.members = members
        self.spaces = spaces
        self.rude = rude
        # With a focus most acts for cells are for columns that hold this.
        self.focus = focus
        self.store = Store(members)
        self.views = [[0] * members for _ in range(members)]
        self.grants = [(None, 0)]
        self.publicity = 0.2
        self.things = {space: {"table": [], "column": [], "row": [], "mark": [], "lens": []} for space in spaces}

    def chance(self, part):
        return self.random.random() < part

    def pick(self, things, default=None):
        return self.random.choice(things) if things else default

    def run(self, steps, seals=0.05):
        for _ in range(steps):
            if self.chance(0.45):
                one, other = self.random.randrange(self.members), self.random.randrange(self.members)
                self.views[one] = [max(pair) for pair in zip(self.views[one], self.views[other])]
            else:
                self.act(seals)
        return self.store

    def start(self):
        """The founder invites everybody and makes a table with columns of all kinds; all hear of it."""
        rights = (((True,) * 3),) * SPACES
        publics = [("grant", member, rights) for member in range(1, self.members)]
        table = (0, 1, 0)
        acts = [("table", "a")]
        for holds in HOLDS + ["integer", ("refer", table)]:
            acts.append(("column", table, "c" + str(len(acts)), holds))
        acts += [("row", table), ("row", table), ("row", table)]
        acts.append(("unique", table, (self.pick([(0, 1, 1), (0, 1, 2), (0, 1, 3)]),)))
        self.store.add(make(0, 1, [0] * self.members, None, publics, {space: acts for space in self.spaces}))
        self.grants += [((0, 1, place), act[1]) for place, act in enumerate(publics)]
        for space in self.spaces:
            for place, act in enumerate(acts):
                self.note(space, (0, 1, place), act)
        for view in self.views:
            view[0] = 1

    def knows(self, spot, heard, author, number):
        return spot[1] <= heard[spot[0]] or spot[:2] == (author, number)

    def act(self, seals):
        author = 0 if self.chance(0.4) else self.random.randrange(self.members)
        heard = list(self.views[author])
        number = heard[author] + 1
        own = [cap for cap, holder in self.grants
               if holder == author and (cap is None or cap[1] <= heard[cap[0]])]
        capability = self.pick(own) if not self.chance(self.rude) else self.pick(self.grants)[0]
        publics = self.publics(author, number, heard, seals)
        parts = {space: self.part(space, author, number, heard) for space in self.spaces if self.chance(0.8)}
        change = make(author, number, heard, capability, publics, parts)
        self.store.add(change)
        self.views[author][author] = number
        for place, act in enumerate(publics):
            if act[0] == "grant":
                self.grants.append(((author, number, place), act[1]))

    def publics(self, author, number, heard, seals):
        found = []
        while self.chance(self.publicity):
            kind = self.random.random()
            if author == 0 and self.chance(seals) or self.chance(self.rude / 5):
                found.append(("seal",))
            elif kind < 0.75:
                rights = tuple((self.chance(0.8), self.chance(0.85), self.chance(0.7)) for _ in range(SPACES))
                found.append(("grant", self.random.randrange(self.members), rights))
            elif kind < 0.95:
                found.append(("revoke", self.pick(self.grants)[0]))
            else:
                found.append(("revoke", (self.random.randrange(self.members), number, 0)))
        return found

    def part(self, space, author, number, heard):
        acts = []
        while self.chance(0.85) and len(acts) < 9:
            act = self.one_act(space, author, number, heard)
            if act is not None:
                self.note(space, (author, number, len(acts)), act)
                acts.append(act)
        return acts

    def note(self, space, spot, act):
        if act[0] in self.things[space]:
            self.things[space][act[0]].append((spot, act))
        if act[0] == "insert":
            for index in range(len(act[4])):
                self.things[space]["mark"].append((spot + (index,), act))

    def known(self, space, kind, author, number, heard):
        things = self.things[space][kind]
        if self.chance(self.rude):
            return things
        return [thing for thing in things if self.knows(thing[0], heard, author, number)]

    def one_act(self, space, author, number, heard):
        def known(kind):
            return self.known(space, kind, author, number, heard)

        tables, columns, rows = known("table"), known("column"), known("row")
        chance = self.random.random()
        if not tables or chance < 0.02:
            return ("table", self.pick(NAMES[:2]))
        if len(columns) < 3 or chance < 0.06:
            holds = self.pick(HOLDS + [("refer", self.pick(tables)[0])] * 4)
            return ("column", self.pick(tables)[0], self.pick(NAMES), holds)
        if not rows or chance < 0.14:
            return ("row", self.pick(tables)[0])
        if chance < 0.18:
            return self.unique(tables, columns)
        if chance < 0.22:
            return self.lens(tables, columns, known("lens"))
        if chance < 0.25:
            return ("drop", self.pick(rows)[0])
        if chance < 0.28:
            return ("undo", self.past_name(heard, author, number))
        marks = known("mark")
        if chance < 0.36 and marks:
            return ("remove", self.pick(marks)[0])
        return self.cell_act(rows, columns, marks)

    def past_name(self, heard, author, number):
        other = self.random.randrange(self.members)
        if self.chance(self.rude):
            return (other, number)
        # The last changes are undone more often, so that undos are undone, too.
        last = heard[other]
        return (other, max(1, last - self.random.randrange(3)))

    def unique(self, tables, columns):
        table = self.pick(tables)[0]
        own = [spot for spot, act in columns if act[1] == table or self.chance(self.rude / 3)]
        return ("unique", table, tuple(self.random.sample(own, min(len(own), self.random.choice([0, 1, 1, 1, 2])))))

    def lens(self, tables, columns, lenses):
        base = self.pick(lenses + tables)
        if base[1][0] == "lens":
            own = [column for column, _ in base[1][3]]
        else:
            own = [spot for spot, act in columns if act[1] == base[0]]
        own = own + [spot for spot, _ in columns if self.chance(self.rude / 3)]
        shown = [column for column in own if self.chance(0.7)]
        names = self.random.sample(["x", "y", "z", "u", "v", "w"] * 3, min(len(shown), 18))
        if not self.chance(0.3):
            names = ["c" + str(index) for index in range(len(shown))]
        if self.chance(0.05) and names:
            names[0] = "id"
        fixed = [(column, self.value()) for column in own if self.chance(0.15)]
        return ("lens", self.pick(NAMES[:2]), base[0], tuple(zip(shown, names)), tuple(fixed))

    def value(self):
        return self.pick([None, True, False, 0, 1, 2, "", "x"])

    def cell_act(self, rows, columns, marks):
        row, made = self.pick(rows)
        own = [column for column in columns if column[1][1] == made[1]]
        if not own or self.chance(self.rude / 2):
            own = columns
        focused = [column for column in own if column[1][3] == self.focus]
        if focused and self.chance(0.8):
            own = focused
        column, act = self.pick(own)
        holds = act[3] if not self.chance(self.rude) else self.pick(HOLDS)
        if isinstance(holds, tuple):
            fitting = [spot for spot, each in rows if each[1] == holds[1] or self.chance(self.rude)]
            return ("refer", row, column, self.pick(fitting) if not self.chance(0.1) else None)
        if holds == "counter":
            return ("add", row, column, self.random.randrange(-3, 5))
        if holds == "stock":
            return self.stock_act(row, column)
        if holds == "letters":
            own = [mark for mark, each in marks if each[1:3] == (row, column) or self.chance(self.rude)]
            behind = self.pick(own) if not self.chance(0.2) else None
            return ("insert", row, column, behind, self.pick(["", "p", "qr", "stu"]))
        return ("put", row, column, self.put_value(holds))

    def put_value(self, holds):
        if self.chance(self.rude):
            return self.value()
        return {"integer": self.pick([0, 1, 2]), "text": self.pick(["x", "y"]),
                "boolean": self.pick([True, False])}[holds]

    def stock_act(self, row, column):
        amount = self.random.randrange(0, 5)
        kind = self.random.random()
        if kind < 0.4:
            return ("add", row, column, 3 * amount)
        if kind < 0.7:
            return ("spend", row, column, amount)
        return ("lend", row, column, self.random.randrange(self.members + 1), amount)
