"""Points 60 to 77, read once more and slowly: the check of a question and its answer.

Names are looked up anew for each row, and everything is worked out from the words of the points alone.
"""

from kithwhole import errors

LIMIT = 10 ** 40


def rank(value):
    if value is None:
        return (0,)
    if value is False or value is True:
        return (1 if value is False else 2,)
    return (3, value) if isinstance(value, int) else (4, value)


def equal(first, second):
    return rank(first) == rank(second)


def equal_rows(first, second):
    return len(first) == len(second) and all(equal(a, b) for a, b in zip(first, second))


def among(row, rows):
    return any(equal_rows(row, other) for other in rows)


def firsts(rows):
    found = []
    for row in rows:
        if not among(row, found):
            found.append(row)
    return found


class Frame:
    """A select that is being checked, or the row of it that is being looked at."""

    def __init__(self, columns):
        self.columns = columns
        self.phase = "where"
        self.groups = False
        self.keys = []
        self.inside = 0
        self.row = None
        self.rows = None


def belongs(expression):
    """True if an aggregate in the expression belongs to its select."""
    kind = expression[0]
    if kind in ("aggregate", "count_all"):
        return True
    if kind in ("exists", "scalar", "literal", "parameter", "column"):
        return False
    inside = list(expression[1:2]) if kind in ("in_query", "is_null") else list(expression[1:])
    if kind == "binary":
        inside = expression[2:]
    if kind == "in_list":
        inside = (expression[1],) + expression[2]
    return any(belongs(each) for each in inside)


def does_group(select):
    return select[5] is not None or select[6] is not None or any(belongs(e) for e, _ in select[2] or ())


class Check:
    def __init__(self, sources, parameters):
        self.sources = sources
        self.parameters = parameters

    def question(self, tree):
        columns = self.query(tree[1], [])
        for key, _ in tree[2]:
            if isinstance(key, int):
                if key < 1 or key > len(columns):
                    raise errors.UnknownPosition(key)
                continue
            many = sum(1 for name, _ in columns if name == key)
            if many == 0:
                raise errors.UnknownColumn(key)
            if many > 1:
                raise errors.AmbiguousColumn(key)
        return columns

    def fit(self, first, second):
        if first != second and "null" not in (first, second):
            raise errors.KindMismatch("")
        return second if first == "null" else first

    def query(self, query, frames):
        if query[0] == "set":
            first = self.query(query[2], frames)
            second = self.query(query[3], frames)
            if len(first) != len(second):
                raise errors.ColumnCount("")
            return [(a[0], self.fit(a[1], b[1])) for a, b in zip(first, second)]
        _, _, items, source, where, group, having = query
        frame = Frame(self.source(source, frames)[1] if source else [])
        inside = frames + [frame]
        if where is not None:
            self.fit(self.kind(where, inside), "boolean")
        frame.phase = "group"
        for each in group or ():
            self.kind(each, inside)
        for each in group or ():
            if each[0] != "column" or self.find(each, inside)[0] is not frame:
                raise errors.GroupingNotAllowed("")
            frame.keys.append(self.find(each, inside)[1])
        frame.phase = "list"
        frame.groups = does_group(query)
        if items is None and (frame.groups or source is None):
            raise errors.NothingToShow("")
        told = [(name, kind) for _, name, kind in frame.columns]
        if items is not None:
            told = [(name or (e[2] if e[0] == "column" else ""), self.kind(e, inside)) for e, name in items]
        if having is not None:
            self.fit(self.kind(having, inside), "boolean")
        return told

    def source(self, source, frames):
        if source[0] == "table":
            if source[1] not in self.sources:
                raise errors.UnknownTable(source[1])
            table, name = self.sources[source[1]], source[2] or source[1]
            return [name], [(name, c, k) for c, k in zip(table.columns, table.kinds)]
        if source[0] == "subquery":
            return [source[2]], [(source[2], c, k) for c, k in self.query(source[1], frames)]
        names, columns = self.source(source[1], frames)
        others, more = self.source(source[2], frames)
        for name in names:
            if name in others:
                raise errors.DuplicateSource(name)
        frame = Frame(columns + more)
        self.fit(self.kind(source[3], frames + [frame]), "boolean")
        return names + others, columns + more

    def find(self, column, frames):
        _, source, name = column
        for frame in reversed(frames):
            places = [place for place, each in enumerate(frame.columns)
                      if each[1] == name and (source is None or each[0] == source)]
            if len(places) > 1:
                raise errors.AmbiguousColumn(name)
            if places:
                return frame, places[0]
        raise errors.UnknownColumn(name if source is None else f"{source}.{name}")

    def kind(self, e, frames):
        word = e[0]
        if word == "literal":
            return self.of_value(e[1])
        if word == "parameter":
            if e[1] == 0 or e[1] > len(self.parameters):
                raise errors.UnknownParameter(e[1])
            return self.of_value(self.parameters[e[1] - 1])
        if word == "column":
            frame, place = self.find(e, frames)
            if frame.groups and not frame.inside and place not in frame.keys:
                raise errors.NotGrouped(e[2])
            return frame.columns[place][2]
        if word in ("aggregate", "count_all"):
            return self.aggregate(e, frames)
        if word in ("exists", "scalar"):
            return self.inner(e, frames)
        if word == "case":
            self.fit(self.kind(e[1], frames), "boolean")
            first = self.kind(e[2], frames)
            return self.fit(first, self.kind(e[3], frames))
        if word == "binary":
            first, second = self.kind(e[2], frames), self.kind(e[3], frames)
            if e[1] in ("=", "<>", "<", "<=", ">", ">="):
                self.fit(first, second)
                return "boolean"
            needed = {"||": "text", "and": "boolean", "or": "boolean"}.get(e[1], "integer")
            self.fit(first, needed)
            self.fit(second, needed)
            return needed
        first = self.kind(e[1], frames)
        if word in ("not", "negate"):
            needed = "boolean" if word == "not" else "integer"
            self.fit(first, needed)
            return needed
        if word == "in_list":
            for kind in [self.kind(each, frames) for each in e[2]]:
                self.fit(first, kind)
        if word == "in_query":
            columns = self.query(e[2], frames)
            if len(columns) != 1:
                raise errors.ColumnCount("")
            self.fit(first, columns[0][1])
        return "boolean"

    def inner(self, e, frames):
        columns = self.query(e[1], frames)
        if e[0] == "exists":
            return "boolean"
        if len(columns) != 1:
            raise errors.ColumnCount("")
        query = e[1]
        if query[0] == "set" or query[5] or query[6] or not any(belongs(each) for each, _ in query[2] or ()):
            raise errors.RowCount("")
        return columns[0][1]

    def aggregate(self, e, frames):
        frame = frames[-1]
        if frame.phase != "list" or frame.inside:
            raise errors.AggregateNotAllowed("")
        if e[0] == "count_all":
            return "integer"
        frame.inside += 1
        kind = self.kind(e[2], frames)
        frame.inside -= 1
        if e[1] == "sum":
            self.fit(kind, "integer")
        return kind if e[1] in ("min", "max") else "integer"

    def of_value(self, value):
        return {type(None): "null", bool: "boolean", int: "integer", str: "text"}[type(value)]


class Meaning:
    def __init__(self, sources, parameters):
        self.sources = sources
        self.parameters = parameters

    def answer(self, tree):
        columns = Check(self.sources, self.parameters).question(tree)
        names = [name for name, _ in columns]
        rows = self.query(tree[1], [])
        for place in reversed(range(len(names))):
            rows = sorted(rows, key=lambda row: rank(row[place]))
        for key, down in reversed(tree[2]):
            place = key - 1 if isinstance(key, int) else names.index(key)
            rows = sorted(rows, key=lambda row: rank(row[place]), reverse=down)
        return names, rows if tree[3] is None else rows[:tree[3]]

    def query(self, query, frames):
        if query[0] == "set":
            first, second = self.query(query[2], frames), self.query(query[3], frames)
            if query[1] == "union all":
                return first + second
            if query[1] == "union":
                return firsts(first + second)
            return [row for row in firsts(first) if among(row, second) == (query[1] == "intersect")]
        _, distinct, items, source, where, group, having = query
        columns, rows = self.source(source, frames) if source else ([], [()])
        if where is not None:
            rows = [row for row in rows if self.value(where, frames + [self.at(columns, row)]) is True]
        places = [self.at(columns, row) for row in rows]
        if does_group(query):
            places = self.groups(columns, rows, group, frames)
        if having is not None:
            places = [frame for frame in places if self.value(having, frames + [frame]) is True]
        if items is not None:
            rows = [tuple(self.value(e, frames + [frame]) for e, _ in items) for frame in places]
        return firsts(rows) if distinct else rows

    def at(self, columns, row, rows=None):
        frame = Frame(columns)
        frame.row, frame.rows = row, rows
        return frame

    def groups(self, columns, rows, group, frames):
        if group is None:
            return [self.at(columns, None if not rows else rows[0], rows)]
        keys = [tuple(self.value(e, frames + [self.at(columns, row)]) for e in group) for row in rows]
        return [self.at(columns, [row for row, each in zip(rows, keys) if equal_rows(each, key)][0],
                        [row for row, each in zip(rows, keys) if equal_rows(each, key)]) for key in firsts(keys)]

    def source(self, source, frames):
        if source[0] == "table":
            table = self.sources[source[1]]
            return [(source[2] or source[1], name) for name in table.columns], list(table.rows)
        if source[0] == "subquery":
            return [(source[2], name) for name in self.names(source[1])], self.query(source[1], frames)
        left, rows = self.source(source[1], frames)
        right, others = self.source(source[2], frames)
        made = []
        for row in rows:
            found = [row + other for other in others
                     if self.value(source[3], frames + [self.at(left + right, row + other)]) is True]
            made += found or ([row + (None,) * len(right)] if source[4] else [])
        return left + right, made

    def names(self, query):
        if query[0] == "set":
            return self.names(query[2])
        if query[2] is None:
            return [name for _, name in self.source_names(query[3])]
        return [name or (e[2] if e[0] == "column" else "") for e, name in query[2]]

    def source_names(self, source):
        if source[0] == "join":
            return self.source_names(source[1]) + self.source_names(source[2])
        if source[0] == "subquery":
            return [(source[2], name) for name in self.names(source[1])]
        return [(source[2], name) for name in self.sources[source[1]].columns]

    def value(self, e, frames):
        word = e[0]
        if word == "literal":
            return e[1]
        if word == "parameter":
            return self.parameters[e[1] - 1]
        if word == "column":
            for frame in reversed(frames):
                for place, each in enumerate(frame.columns):
                    if each[1] == e[2] and e[1] in (None, each[0]):
                        return frame.row[place]
        if word in ("aggregate", "count_all"):
            return self.aggregate(e, frames)
        if word == "exists":
            return bool(self.query(e[1], frames))
        if word == "scalar":
            ((value,),) = self.query(e[1], frames)
            return value
        if word == "case":
            return self.value(e[2] if self.value(e[1], frames) is True else e[3], frames)
        if word == "binary":
            return self.binary(e[1], self.value(e[2], frames), self.value(e[3], frames))
        first = self.value(e[1], frames)
        if word == "negate":
            return self.binary("-", 0, first)
        if word == "not":
            return self.no(first)
        if word == "is_null":
            return (first is None) is not e[2]
        if word == "in_list":
            held = False
            for each in e[2]:
                held = self.binary("or", held, self.binary("=", first, self.value(each, frames)))
            return self.no(held) if e[3] else held
        held = self.in_rows(first, self.query(e[2], frames))
        return self.no(held) if e[3] else held

    def in_rows(self, value, rows):
        if not rows:
            return False
        if value is None:
            return None
        if among((value,), rows):
            return True
        return None if among((None,), rows) else False

    def no(self, value):
        return {True: False, False: True, None: None}[value]

    def aggregate(self, e, frames):
        frame = frames[-1]
        if e[0] == "count_all":
            return len(frame.rows)
        values = [self.value(e[2], frames[:-1] + [self.at(frame.columns, row)]) for row in frame.rows]
        values = [value for value in values if value is not None]
        if e[1] == "count":
            return len(values)
        if not values:
            return None
        if e[1] == "sum":
            return self.held(sum(values))
        ranked = sorted(values, key=rank)
        return ranked[0] if e[1] == "min" else ranked[-1]

    def held(self, number):
        return number if -LIMIT < number < LIMIT else None

    def binary(self, operator, a, b):
        if operator == "and":
            return False if False in (a, b) else None if None in (a, b) else True
        if operator == "or":
            return True if True in (a, b) else None if None in (a, b) else False
        if a is None or b is None:
            return None
        if operator == "||":
            return a + b if len(a + b) <= 2000 else None
        if operator in ("+", "-", "*"):
            return self.held({"+": a + b, "-": a - b, "*": a * b}[operator])
        if operator in ("/", "mod"):
            if b == 0:
                return None
            quotient = (abs(a) // abs(b)) * (1 if (a >= 0) == (b > 0) else -1)
            return self.held(quotient if operator == "/" else a - quotient * b)
        one, other = rank(a), rank(b)
        return {"=": one == other, "<>": one != other, "<": one < other, "<=": one <= other, ">": one > other,
                ">=": one >= other}[operator]
