"""Points 127 to 133 read once more and slowly: the rows of plans, what the rules make, the table of costs."""

from itertools import combinations, product

from tests.question_oracle import Frame, Meaning, among, equal_rows, firsts


class TooMany(Exception):
    pass


class Plans:
    def __init__(self, sources, parameters, most=2000):
        self.sources = sources
        self.meaning = Meaning(sources, parameters)
        self.most = most

    def width(self, plan):
        match plan:
            case ("scan", name):
                return len(self.sources[name].columns)
            case ("one",):
                return 0
            case ("cross", a, b) | ("join" | "match" | "outer", _, a, b):
                return self.width(a) + self.width(b)
            case ("keep", _, a) | ("distinct", a) | ("all" | "except" | "intersect", a, _):
                return self.width(a)
            case ("pick", items, _) | ("group", _, items, _, _):
                return len(items)

    def value(self, expression, row, rows=None):
        frame = Frame([(None, str(place)) for place in range(len(row or ()))])
        frame.row, frame.rows = row, rows
        return self.meaning.value(expression, [frame])

    def rows(self, plan):
        rows = self.made(plan)
        if len(rows) > self.most:
            raise TooMany
        return rows

    def made(self, plan):
        match plan:
            case ("scan", name):
                return list(self.sources[name].rows)
            case ("one",):
                return [()]
            case ("cross", a, b):
                return [one + other for one, other in product(self.rows(a), self.rows(b))]
            case ("join", x, a, b):
                pairs = product(self.rows(a), self.rows(b))
                return [one + other for one, other in pairs if self.value(x, one + other) is True]
            case ("match", pairs, a, b):
                crossed = [one + other for one, other in product(self.rows(a), self.rows(b))]
                return [row for row in crossed if all(self.matched(row[i], row[j]) for i, j in pairs)]
            case ("outer", x, a, b):
                found, others = [], self.rows(b)
                for one in self.rows(a):
                    fitting = [one + other for other in others if self.value(x, one + other) is True]
                    found += fitting or [one + (None,) * self.width(b)]
                return found
            case ("keep", x, a):
                return [row for row in self.rows(a) if self.value(x, row) is True]
            case ("pick", items, a):
                return [tuple(self.value(item, row) for item in items) for row in self.rows(a)]
            case ("distinct", a):
                return firsts(self.rows(a))
            case ("group", places, items, having, a):
                return self.grouped(places, items, having, self.rows(a))
            case ("all", a, b):
                return self.rows(a) + self.rows(b)
            case ("except", a, b):
                others = self.rows(b)
                return [row for row in firsts(self.rows(a)) if not among(row, others)]
            case ("intersect", a, b):
                others = self.rows(b)
                return [row for row in firsts(self.rows(a)) if among(row, others)]

    def matched(self, one, other):
        return one is not None and other is not None and equal_rows((one,), (other,))

    def grouped(self, places, items, having, rows):
        if places is None:
            groups = [rows]
        else:
            def key(row):
                return tuple(row[place] for place in places)
            groups = [[row for row in rows if equal_rows(key(row), told)] for told in firsts([key(row) for row in rows])]
        found = []
        for group in groups:
            first = group[0] if group else None
            if having is None or self.value(having, first, group) is True:
                found.append(tuple(self.value(item, first, group) for item in items))
        return found


def col(place):
    return ("column", None, str(place))


def places(tree):
    """The indexes of all columns in an expression."""
    if isinstance(tree, tuple):
        if len(tree) == 3 and tree[0] == "column" and tree[1] is None:
            return {int(tree[2])}
        return set().union(*map(places, tree))
    return set()


def put(tree, new):
    """The expression with other expressions for its columns."""
    if not isinstance(tree, tuple):
        return tree
    if len(tree) == 3 and tree[0] == "column" and tree[1] is None:
        return new(int(tree[2]))
    return tuple(put(each, new) for each in tree)


class Rules:
    def __init__(self, sources):
        self.width = Plans(sources, []).width

    def turn(self, rule, plan):
        return getattr(self, "rule_" + rule)(plan)

    def rule_split(self, plan):
        match plan:
            case ("keep", ("binary", "and", x, y), a):
                return ("keep", x, ("keep", y, a))

    def rule_merge(self, plan):
        match plan:
            case ("keep", x, ("keep", y, a)):
                return ("keep", ("binary", "and", x, y), a)

    def rule_swap(self, plan):
        match plan:
            case ("keep", x, ("keep", y, a)):
                return ("keep", y, ("keep", x, a))

    def rule_cross(self, plan):
        match plan:
            case ("join", x, a, b):
                return ("keep", x, ("cross", a, b))

    def rule_join(self, plan):
        match plan:
            case ("keep", x, ("cross", a, b)):
                return ("join", x, a, b)

    def rule_left(self, plan):
        match plan:
            case ("keep", x, ("cross" | "join" | "match" | "outer", *fields, a, b)):
                if not places(x) & set(range(self.width(a), self.width(a) + self.width(b))):
                    return (plan[2][0], *fields, ("keep", x, a), b)

    def rule_right(self, plan):
        match plan:
            case ("keep", x, ("cross" | "join" | "match", *fields, a, b)):
                many = self.width(a)
                if not places(x) & set(range(many)):
                    return (plan[2][0], *fields, a, ("keep", put(x, lambda place: col(place - many)), b))

    def rule_match(self, plan):
        match plan:
            case ("keep", ("binary", "=", ("column", None, c), ("column", None, d)), ("cross" | "match", *fields, a, b)):
                low, high = sorted((int(c), int(d)))
                if low < self.width(a) and high >= self.width(a):
                    return ("match", (*(fields[0] if fields else ()), (low, high)), a, b)

    def rule_open(self, plan):
        match plan:
            case ("match", (*pairs, (i, j)), a, b):
                return ("keep", ("binary", "=", col(i), col(j)), ("match", tuple(pairs), a, b) if pairs else ("cross", a, b))

    def rule_turn(self, plan):
        match plan:
            case ("cross" | "match", *fields, a, b):
                one, other = self.width(a), self.width(b)
                new = {place: place + other if place < one else place - one for place in range(one + other)}
                if fields:
                    fields = [tuple(tuple(sorted((new[i], new[j]))) for i, j in fields[0])]
                return ("pick", tuple(col(new[place]) for place in range(one + other)), (plan[0], *fields, b, a))

    def rule_hang(self, plan):
        match plan:
            case ("cross", ("cross", a, b), c):
                return ("cross", a, ("cross", b, c))

    def rule_unhang(self, plan):
        match plan:
            case ("cross", a, ("cross", b, c)):
                return ("cross", ("cross", a, b), c)

    def rule_pick(self, plan):
        match plan:
            case ("keep", x, ("pick", items, a)):
                return ("pick", items, ("keep", put(x, lambda place: items[place]), a))

    def rule_distinct(self, plan):
        match plan:
            case ("keep", x, ("distinct", a)):
                return ("distinct", ("keep", x, a))

    def rule_set(self, plan):
        match plan:
            case ("keep", x, ("all", a, b)):
                return ("all", ("keep", x, a), ("keep", x, b))
            case ("keep", x, ("except" | "intersect" as word, a, b)):
                return (word, ("keep", x, a), b)

    def rule_group(self, plan):
        match plan:
            case ("keep", x, ("group", tuple(grouped), items, having, a)):
                if all(items[place] in [col(each) for each in grouped] for place in places(x)):
                    return ("group", grouped, items, having, ("keep", put(x, lambda place: items[place]), a))

    def rule_twice(self, plan):
        match plan:
            case ("distinct", ("distinct" | "except" | "intersect", *_)):
                return plan[1]

    def rule_picks(self, plan):
        match plan:
            case ("pick", items, ("pick", lower, a)):
                return ("pick", put(items, lambda place: lower[place]), a)

    def below(self, plan):
        return [index for index, each in enumerate(plan)
                if isinstance(each, tuple) and each and each[0] in (
                    "scan", "one", "cross", "join", "match", "outer", "keep", "pick", "distinct", "group", "all",
                    "except", "intersect") and index >= len(plan) - 2 and not (plan[0] == "keep" and index == 1)]

    def steps(self, plan, rules, path=()):
        found = [(rule, path) for rule in rules if self.turn(rule, plan) is not None]
        for number, index in enumerate(self.below(plan)):
            found += self.steps(plan[index], rules, path + (number,))
        return found

    def after(self, plan, rule, path):
        if not path:
            return self.turn(rule, plan)
        index = self.below(plan)[path[0]]
        return plan[:index] + (self.after(plan[index], rule, path[1:]),) + plan[index + 1:]


class Table:
    """The table of point 133: all rows of all groups are made from the scans, and all ways are looked at."""

    def __init__(self, plan, sources, parameters):
        self.plans = Plans(sources, parameters)
        self.scans, self.conditions = self.read(plan, 0)
        self.starts, self.ends, start = [], [], 0
        for name in self.scans:
            self.starts.append(start)
            start += len(sources[name].columns)
            self.ends.append(start)
        self.table = {}
        everything = range(len(self.scans))
        for size in range(1, len(self.scans) + 1):
            for group in combinations(everything, size):
                self.tell(group)

    def read(self, plan, start):
        match plan:
            case ("scan", name):
                return [name], []
            case ("keep", x, a):
                scans, conditions = self.read(a, start)
                return scans, conditions + [put(x, lambda place: col(place + start))]
            case ("cross" | "join", *fields, a, b):
                one, first = self.read(a, start)
                other, second = self.read(b, start + self.plans.width(a))
                return one + other, first + second + [put(x, lambda place: col(place + start)) for x in fields]

    def asked(self, group):
        seen = {place for scan in group for place in range(self.starts[scan], self.ends[scan])}
        return [index for index, x in enumerate(self.conditions) if places(x) <= seen]

    def rows(self, group):
        found = []
        for rows in product(*(self.plans.sources[self.scans[scan]].rows for scan in group)):
            told = {}
            for scan, row in zip(group, rows):
                told.update(zip(range(self.starts[scan], self.ends[scan]), row))
            row = [told.get(place) for place in range(self.ends[-1])]
            if all(self.plans.value(self.conditions[index], row) is True for index in self.asked(group)):
                found.append(row)
        return found

    def tell(self, group):
        if len(group) == 1:
            self.table[group] = (len(self.rows(group)), 0, None)
            return
        ways = []
        for size in range(1, len(group)):
            for first in combinations(group, size):
                second = tuple(scan for scan in group if scan not in first)
                if first in self.table and second in self.table:
                    looked = self.table[first][0] * self.table[second][0]
                    if looked <= 2000:
                        ways.append((self.table[first][1] + self.table[second][1] + looked, first))
        if ways:
            cost, first = min(ways)
            self.table[group] = (len(self.rows(group)), cost, first)
