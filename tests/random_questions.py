"""Random sources and questions about them. Most questions pass the check; some are wrong in one place."""

from kithwhole.sources import Source

KINDS = ("integer", "boolean", "text")
VALUES = {"integer": [None, 0, 1, 2, -3, 10 ** 40 - 1], "boolean": [None, True, False],
          "text": [None, "", "a", "ab", "b"]}
TABLES = {"t": [("id", "text"), ("a", "integer"), ("b", "boolean"), ("c", "text")],
          "u": [("id", "text"), ("a", "integer"), ("d", "integer")], "e": [("id", "text"), ("b", "boolean")]}


def make_sources(chance, most=4):
    made = {}
    for name, columns in TABLES.items():
        many = chance.randrange(most + 1) if name != "e" else 0
        rows = [(f"0.1.{index}",) + tuple(chance.choice(VALUES[kind]) for _, kind in columns[1:])
                for index in range(many)]
        made[name] = Source(name, [column for column, _ in columns], [kind for _, kind in columns], rows)
    return made


class Asker:
    def __init__(self, chance, rude=0.02, deep=4):
        self.chance = chance
        self.rude = rude
        self.deep = deep
        self.parameters = [chance.choice(VALUES[chance.choice(KINDS)]) for _ in range(2)]

    def happens(self, part):
        return self.chance.random() < part

    def one(self, things):
        return self.chance.choice(things)

    def question(self):
        query, columns = self.query([], 0)
        order = []
        while self.happens(0.3):
            names = [name for name, _ in columns]
            keys = [place + 1 for place in range(len(names))] + [name for name in names if name]
            keys = [key for key in keys if names.count(key) < 2 or self.happens(self.rude)]
            if not keys or self.happens(self.rude):
                keys = [0, len(columns) + 1, "zz"]
            order.append((self.one(keys), self.happens(0.5)))
        return ("question", query, tuple(order), self.one([None, None, 0, 1, 3]))

    def query(self, frames, depth, kinds=None):
        """A query and its columns; `kinds` are those of the columns that are wanted."""
        if kinds is None:
            kinds = [self.one(KINDS) for _ in range(self.one([1, 1, 2, 3]))]
        if depth < self.deep and self.happens(0.2):
            first, columns = self.query(frames, depth + 1, kinds)
            if self.happens(self.rude):
                kinds = kinds + ["integer"]
            same = [kind for _, kind in columns] or kinds
            second, _ = self.query(frames, depth + 1, same if self.happens(0.9) else kinds)
            return ("set", self.one(["union all", "union", "except", "intersect"]), first, second), columns
        return self.select(frames, depth, kinds)

    def select(self, frames, depth, kinds, one_row=False):
        source, columns = None, []
        if not self.happens(0.1):
            source, columns = self.source(frames, depth, self.one([1, 1, 1, 2, 2, 3]))
        frame = {"columns": columns, "aggregates": False, "keys": None}
        inside = frames + [frame]
        where = self.expression("boolean", inside, depth + 1) if self.happens(0.4) else None
        group = having = None
        written = [("column", self.one([None, source_name]), name) for source_name, name, _ in columns if name]
        plain = [e for e in written if self.is_plain(e, frame, inside) or self.happens(self.rude)]
        if plain and not one_row and self.happens(0.25):
            group = tuple(self.one(plain) for _ in range(self.one([1, 1, 2])))
            if self.happens(self.rude):
                group += (self.expression("integer", inside, depth + 1),)
        grouping = one_row or group is not None or self.happens(0.1)
        if grouping:
            frame["aggregates"] = True
            frame["keys"] = group or ()
        elif columns and self.happens(0.15) or self.happens(self.rude):
            return (("select", self.happens(0.3), None, source, where, group, having),
                    [(name, kind) for _, name, kind in columns])
        items = [(self.expression(kind, inside, depth + 1), self.one([None, None, "a", "m", "n"])) for kind in kinds]
        if one_row and not self.happens(self.rude):
            items = [(self.aggregate(kinds[0], inside, depth), None)]
        if grouping and not one_row and self.happens(0.5):
            having = self.expression("boolean", inside, depth + 1)
        told = [(name or (e[2] if e[0] == "column" else ""), kind) for (e, name), kind in zip(items, kinds)]
        return ("select", self.happens(0.2), tuple(items), source, where, group, having), told

    def source(self, frames, depth, many):
        aliases = ["x", "y", "z"]
        source, columns = self.single(frames, depth, aliases[0])
        for alias in aliases[1:many]:
            right, more = self.single(frames, depth, alias)
            columns = columns + more
            frame = {"columns": columns, "aggregates": False, "keys": None}
            condition = self.expression("boolean", frames + [frame], depth + 1)
            source = ("join", source, right, condition, self.happens(0.4))
        return source, columns

    def single(self, frames, depth, alias):
        if self.happens(self.rude / 2):
            alias = "x"
        if depth < self.deep and self.happens(0.2):
            query, columns = self.query(frames, depth + 1)
            return ("subquery", query, alias), [(alias, name, kind) for name, kind in columns]
        name = self.one(list(TABLES)) if not self.happens(self.rude / 2) else "zz"
        alias = None if self.happens(0.1) else alias
        return ("table", name, alias), [(alias or name, c, k) for c, k in TABLES.get(name, TABLES["t"])]

    def expression(self, kind, frames, depth):
        if self.happens(self.rude / 2):
            kind = self.one(KINDS)
        if depth >= self.deep or self.happens(0.45):
            return self.leaf(kind, frames)
        choice = self.chance.random()
        if choice < 0.08:
            return ("scalar", self.select(frames, depth + 1, [kind], one_row=True)[0])
        if choice < 0.15:
            return ("case", self.expression("boolean", frames, depth + 1), self.expression(kind, frames, depth + 1),
                    self.expression(kind, frames, depth + 1))
        if choice < 0.35 and frames and (frames[-1]["aggregates"] or self.happens(self.rude)):
            return self.aggregate(kind, frames, depth)
        return {"integer": self.number, "text": self.text, "boolean": self.truth}[kind](frames, depth)

    def aggregate(self, kind, frames, depth):
        frame = {"columns": frames[-1]["columns"], "aggregates": False, "keys": None}
        inside = frames[:-1] + [frame]
        if kind == "integer" and self.happens(0.6):
            if self.happens(0.4):
                return ("count_all",)
            return ("aggregate", "count", self.expression(self.one(KINDS), inside, depth + 1))
        word = self.one(["min", "max"] + ["sum"] * (kind == "integer"))
        return ("aggregate", word, self.expression(kind, inside, depth + 1))

    def leaf(self, kind, frames):
        fitting = []
        for frame in frames if self.happens(0.4) else frames[-1:]:
            keys = frame["keys"]
            for source, name, each in frame["columns"]:
                written = [("column", source, name), ("column", None, name)]
                fitting += [e for e in written if name and each == kind and (keys is None or e in keys)
                            and (self.is_plain(e, frame, frames) or self.happens(self.rude))]
                if self.happens(self.rude / 4):
                    fitting.append(("column", self.one([None, "x", "zz"]), self.one(["a", "b", "zz"])))
        if fitting and self.happens(0.75):
            return self.one(fitting)
        if self.happens(0.05):
            return ("parameter", self.one([1, 2]) if not self.happens(self.rude) else self.one([0, 3]))
        value = self.one(VALUES[kind])
        # A literal is not negative and has at most 30 digits.
        return ("literal", min(abs(value), 10 ** 30 - 1) if type(value) is int else value)

    def is_plain(self, column, wanted, frames):
        """True if the column means just one column, and one of the frame that is wanted."""
        for frame in reversed(frames):
            named = [each for each in frame["columns"] if each[1] == column[2] and column[1] in (None, each[0])]
            if named:
                return frame is wanted and len(named) == 1
        return False

    def number(self, frames, depth):
        if self.happens(0.15):
            return ("negate", self.expression("integer", frames, depth + 1))
        return ("binary", self.one(["+", "-", "*", "/", "mod"]), self.expression("integer", frames, depth + 1),
                self.expression("integer", frames, depth + 1))

    def text(self, frames, depth):
        return ("binary", "||", self.expression("text", frames, depth + 1), self.expression("text", frames, depth + 1))

    def truth(self, frames, depth):
        kind, word = self.one(KINDS), self.one(["is", "not", "both", "compare", "compare", "list", "query", "exists"])
        if word == "is":
            return ("is_null", self.expression(kind, frames, depth + 1), self.happens(0.5))
        if word == "not":
            return ("not", self.expression("boolean", frames, depth + 1))
        if word == "both":
            return ("binary", self.one(["and", "or"]), self.expression("boolean", frames, depth + 1),
                    self.expression("boolean", frames, depth + 1))
        if word == "compare":
            return ("binary", self.one(["=", "<>", "<", "<=", ">", ">="]), self.expression(kind, frames, depth + 1),
                    self.expression(kind, frames, depth + 1))
        if word == "list":
            members = tuple(self.expression(kind, frames, depth + 1) for _ in range(self.one([1, 2])))
            return ("in_list", self.expression(kind, frames, depth + 1), members, self.happens(0.5))
        if word == "query":
            kinds = [kind] if not self.happens(self.rude) else [kind, kind]
            return ("in_query", self.expression(kind, frames, depth + 1), self.query(frames, depth + 1, kinds)[0],
                    self.happens(0.5))
        return ("exists", self.query(frames, depth + 1)[0])
