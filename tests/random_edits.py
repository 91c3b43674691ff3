"""Random edits through the lenses of random stores."""

from tests.support import ALL_RIGHTS, Net

T, U = (0, 1, 0), (0, 1, 1)
N, S, B, C, K, L, R, P = [(0, 1, place) for place in range(2, 10)]
V, Q = (0, 1, 10), (0, 1, 11)
COLUMNS = [N, S, B, C, K, L, R, P]
HOLDS = ["integer", "text", "boolean", "counter", "stock", "letters", ("refer", T), ("refer", U)]
VALUES = {N: [1, 2, None], S: ["x", "y", None], B: [True, False, None]}


def random_net(chance):
    """Two tables, unique rules, a few rows that refer to each other, and lenses on lenses."""
    net = Net(3)
    acts = [("table", "t"), ("table", chance.choice(["u", "u", "t"]))]
    acts += [("column", T, chance.choice([f"c{place}", f"c{place}", "n"]), holds) for place, holds in enumerate(HOLDS)]
    acts += [("column", U, "v", "integer"), ("column", U, "q", ("refer", T))]
    rules = [(N,), (S,), (N, S), (B, S), (N, R)]
    acts += [("unique", T, rule) for rule in chance.sample(rules, chance.choice([0, 1, 1, 2]))]
    acts += [("unique", U, (V,))] * chance.choice([0, 1])
    rights = tuple(((True, True, True), (True, chance.random() < 0.8, True))[chance.random() < 0.3] for _ in range(4))
    net.change(0, acts, publics=[("grant", 1, rights), ("grant", 2, ALL_RIGHTS)])
    lenses = []
    for _ in range(chance.choice([1, 2, 3, 4])):
        base, columns = chance.choice(lenses + [(T, COLUMNS)] * 2)
        shown = tuple((column, chance.choice(["n", "s", "b"]) + str(place)) for place, column in enumerate(columns)
                      if chance.random() < 0.8)
        fixed = tuple((column, chance.choice(VALUES[column])) for column in columns
                      if column in VALUES and chance.random() < 0.15)
        name = net.change(0, [("lens", chance.choice(["a", "b", "t", "c"]), base, shown, fixed)])
        lenses.append((name + (0,), [column for column, _ in shown]))
    rows = []
    for _ in range(chance.randrange(9)):
        fill(net, chance, rows, chance.choice([T, T, U]))
    for _ in range(chance.choice([0, 0, 1])):
        net.change(0, [("drop", chance.choice(rows))] if rows else [])
    return net, [spot for spot, _ in lenses]


def fill(net, chance, rows, table):
    author = chance.choice([0, 1, 2])
    heard = {0: net.store.count(0) - chance.randrange(2), 1: net.store.count(1) - chance.randrange(2)}
    heard = {m: max(c, 1) if m == 0 else max(c, 0) for m, c in heard.items() if m != author}
    counts = net.store.counts()
    if any(heard.get(0, counts[0]) < change.heard[0] for changes in net.store.changes for change in changes):
        heard = {}
    row = (author, net.store.count(author) + 1, 0)
    acts = [("row", table)]
    for column in VALUES if table == T else (V,):
        acts.append(("put", row, column, chance.choice(VALUES.get(column, [1, 2]))))
    seen = [other for other in rows + [row] if other[1] <= heard.get(other[0], counts[other[0]]) or other == row]
    for column in ((R, P) if table == T else (Q,)):
        if chance.random() < 0.5:
            acts.append(("refer", row, column, chance.choice(seen)))
    acts += [("add", row, C, 2), ("add", row, K, 3), ("insert", row, L, None, "hi")] if table == T else []
    capability = None if author == 0 else (0, 1, author - 1)
    net.change(author, acts, heard=heard, capability=capability)
    rows.append(row)


def random_edit(chance, picture, lens, made, rude=0.05):
    """An edit that is mostly well formed; `made` are ids of rows that earlier edits may have made."""
    table, shown, fixed = picture.lenses[lens]
    ids = [row[0] for row in picture.told(lens)] + made
    if not ids or chance.random() < rude:
        ids = [".".join(map(str, row)) for rows in picture.rows.values() for row in rows] + ["0.9.9", ""]
    kept = dict(fixed)
    holds = picture.oracle.holds
    writable = [(column, name) for column, name in shown
                if (column not in kept and holds(column) not in ("counter", "stock", "letters"))
                or chance.random() < rude]

    def value(column):
        if chance.random() < rude:
            return chance.choice([0, 1, True, "x", "0.1.2", None])
        if isinstance(holds(column), tuple):
            targets = picture.rows.get(holds(column)[1], [])
            return chance.choice([".".join(map(str, row)) for row in targets] + [None])
        return chance.choice(VALUES.get(column, [1, "x"]) + {"integer": [3], "text": ["z"]}.get(holds(column), []))

    word = chance.choice(["new", "set", "set", "gone"])
    if word == "new":
        return ("new", {name: value(column) for column, name in writable if chance.random() < 0.6})
    if word == "gone":
        return ("gone", chance.choice(ids))
    if not writable or chance.random() < rude:
        return ("set", chance.choice(ids), chance.choice(["zz", "id"]), None)
    column, name = chance.choice(writable)
    return ("set", chance.choice(ids), name, value(column))
