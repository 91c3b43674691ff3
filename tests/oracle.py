"""The document's words, read once more and slowly: what a small store must tell.

Everything is worked out again for each question, from the definitions alone.
"""

from kithwhole.store import SPACES

WORDS = {"integer": int, "text": str, "boolean": bool}


def fold_name(spot):
    return tuple(spot[:2])


class Oracle:
    def __init__(self, store, allowed, space):
        self.store = store
        self.allowed = allowed
        self.space = space
        self.changes = {}
        for of_member in store.changes:
            for change in of_member:
                self.changes[(change.author, change.number)] = change
        self.order = sorted(self.changes, key=lambda name: (sum(self.changes[name].heard),) + name)
        self.kept = store.kept[space]
        self.seals = [name for name in self.order
                      if allowed[name] and ("seal",) in self.changes[name].publics]
        self.effect = self._effect()
        self.acts = self._acts()
        self.at = dict(self.acts)

    # the past

    def is_cut(self, name):
        return 0 <= name[0] < self.store.members and 1 <= name[1] <= self.store.cut[name[0]]

    def past(self, name, of):
        heard = self.changes[of].heard
        return 0 <= name[0] < len(heard) and 1 <= name[1] <= heard[name[0]]

    def related(self, one, other):
        return self.past(one, other) or self.past(other, one)

    def closed(self, later, name):
        if self.is_cut(name):
            return True
        return any(self.past(seal, later) and (seal == name or self.past(name, seal)) for seal in self.seals)

    def knows(self, spot, other):
        mine, theirs = fold_name(spot), fold_name(other)
        if mine not in self.changes:
            return False
        return self.is_cut(theirs) or self.past(theirs, mine) or (mine == theirs and other[2] < spot[2])

    def counts_as_known(self, spot, other):
        return self.is_cut(fold_name(spot)) or self.knows(spot, other)

    # capabilities

    def stated(self, capability):
        if capability is None:
            return (None, 0, ((True,) * 3,) * SPACES)
        for entry in self.store.capabilities:
            if entry[0] == capability:
                return entry[1:]
        change = self.changes.get(fold_name(capability))
        if change is None or not 0 <= capability[2] < len(change.publics):
            return None
        act = change.publics[capability[2]]
        return (change.capability, act[1], act[2]) if act[0] == "grant" else None

    def kept_capability(self, capability):
        return any(entry[0] == capability for entry in self.store.capabilities)

    def there(self, capability, steps=50):
        if capability is None or self.kept_capability(capability):
            return True
        stated = self.stated(capability)
        return stated is not None and steps > 0 and self.there(stated[0], steps - 1)

    def above(self, one, other):
        if not self.there(one) or not self.there(other):
            return False
        for _ in range(60):
            if one == other:
                return True
            if other is None or not self.there(self.stated(other)[0]):
                return False
            other = self.stated(other)[0]
        return False

    def fit(self, name):
        change = self.changes[name]
        capability = change.capability
        if any(heard < cut for heard, cut in zip(change.heard, self.store.cut)):
            return False
        if not self.there(capability) or self.stated(capability)[1] != change.author:
            return False
        if capability is not None and not self.kept_capability(capability):
            if not self.past(fold_name(capability), name):
                return False
        rights = self.stated(capability)[2]
        for act in change.publics:
            if act[0] == "seal" and capability is not None:
                return False
            if act[0] == "grant":
                for space in range(SPACES):
                    for right in range(3):
                        if act[2][space][right] and not (rights[space][right] and rights[space][2]):
                            return False
        return True

    def revoked(self, name):
        change = self.changes[name]
        found = []
        for act in change.publics:
            if act[0] != "revoke" or act[1] == change.capability or not self.above(change.capability, act[1]):
                continue
            if self.kept_capability(act[1]) or self.past(fold_name(act[1]), name):
                if act[1] not in found:
                    found.append(act[1])
        return found

    def should_be_allowed(self, name):
        """Point 18, with the verdicts that are given for all others."""
        change = self.changes[name]
        capability = change.capability
        if not self.fit(name):
            return False
        if capability is not None and not self.kept_capability(capability):
            if not self.allowed[fold_name(capability)]:
                return False
        for seal in self.seals:
            if seal != name and not self.related(seal, name):
                return False
        for other in self.changes:
            if self.allowed[other] and any(self.above(each, capability) for each in self.revoked(other)):
                if not self.past(name, other):
                    return False
        return True

    def held(self, capability):
        if not self.there(capability):
            return False
        if capability is not None and not self.kept_capability(capability):
            if not self.allowed[fold_name(capability)]:
                return False
        return not any(self.allowed[other] and any(self.above(each, capability) for each in self.revoked(other))
                       for other in self.changes)

    # effects

    def part(self, name):
        return self.changes[name].parts[self.space] or ()

    def undoes(self, later, name):
        return ("undo", name) in self.part(later) and self.past(name, later) and not self.closed(later, name)

    def counts(self, name):
        return self.allowed[name] and self.stated(self.changes[name].capability)[2][self.space][1]

    def _effect(self):
        effect = {}
        for name in reversed(self.order):
            effect[name] = self.counts(name) and not any(
                effect[later] and self.undoes(later, name) for later in effect)
        return effect

    def _acts(self):
        acts = [] if self.kept is None else list(self.kept.acts)
        for name in self.order:
            if self.effect[name]:
                acts += [(name + (place,), act) for place, act in enumerate(self.part(name))]
        return acts

    # tables, columns, rules, rows, lenses

    def tables(self):
        return [spot for spot, act in self.acts if act[0] == "table"]

    def table_of(self, spot):
        act = self.at.get(spot)
        if act is None or act[0] not in ("column", "row"):
            return None
        made = self.at.get(act[1], ("none",))[0] == "table" and self.counts_as_known(spot, act[1])
        return act[1] if made else None

    def columns(self, table):
        return [spot for spot, act in self.acts if act[0] == "column" and self.table_of(spot) == table]

    def holds(self, column):
        return self.at[column][3]

    def rules(self, table):
        found = []
        for spot, act in self.acts:
            if act[0] == "unique" and act[1] == table and len(act[2]) > 0:
                columns = self.columns(table)
                if self.counts_as_known(spot, table) and all(
                        each in columns and self.counts_as_known(spot, each)
                        and self.holds(each) not in ("counter", "stock", "letters") for each in act[2]):
                    found.append((spot, act[2]))
        return found

    def drops(self, row):
        return [spot for spot, act in self.acts
                if act[0] == "drop" and act[1] == row and self.counts_as_known(spot, row)]

    def live(self, table):
        return [spot for spot, act in self.acts
                if act[0] == "row" and self.table_of(spot) == table and not self.drops(spot)]

    def lenses(self):
        made = {}
        for spot, act in self.acts:
            if act[0] != "lens":
                continue
            _, _, base, shown, fixed = act
            if base in self.tables():
                columns, table, under = self.columns(base), base, []
            elif base in made:
                columns, table, under = [c for c, _ in made[base][1]], made[base][0], made[base][2]
            else:
                continue
            used = [c for c, _ in shown] + [c for c, _ in fixed]
            alone = [[c for c, _ in shown], [n for _, n in shown], [c for c, _ in fixed]]
            if (self.counts_as_known(spot, base)
                    and all(c in columns and self.counts_as_known(spot, c) for c in used)
                    and all(each.count(thing) == 1 for each in alone for thing in each)
                    and all(name != "id" for _, name in shown)
                    and all(self.fits_kind(self.holds(c), value) for c, value in fixed)):
                made[spot] = (table, list(shown), under + list(fixed))
        return made

    def fits_kind(self, holds, value):
        if holds not in WORDS:
            return False
        return value is None or type(value) is WORDS[holds]

    # cells

    def cell_acts(self, row, column):
        return [(spot, act) for spot, act in self.acts
                if act[0] in ("put", "refer", "add", "spend", "lend") and act[1:3] == (row, column)
                and self.counts_as_known(spot, row) and self.counts_as_known(spot, column)]

    def writes(self, row, column):
        if self.table_of(row) is None or self.table_of(row) != self.table_of(column):
            return []
        holds = self.holds(column)
        found = []
        for spot, act in self.cell_acts(row, column):
            if self.is_cut(fold_name(spot)):
                fits = act[0] in ("put", "refer") and holds not in ("counter", "stock", "letters")
            elif isinstance(holds, tuple):
                fits = act[0] == "refer" and self.may_refer(spot, act[3], holds[1])
            else:
                fits = act[0] == "put" and self.fits_kind(holds, act[3])
            if fits:
                found.append(spot)
        return found

    def may_refer(self, spot, target, table):
        if target is None:
            return True
        if not self.knows(spot, target) or self.at.get(target, ("none",))[0] != "row":
            return False
        if self.table_of(target) != table:
            return False
        return not any(self.closed(fold_name(spot), fold_name(drop)) for drop in self.drops(target))

    def showing_writes(self, row, column):
        writes = self.writes(row, column)
        return [spot for spot in writes if not any(self.knows(other, spot) for other in writes)]

    def shown(self, row, column):
        return [self.at[spot][3] for spot in self.showing_writes(row, column)]

    def entry(self, row, column):
        holds = self.holds(column)
        if holds == "counter":
            kept = dict(self.kept.sums).get((row, column), 0) if self.kept else 0
            return kept + sum(act[3] for _, act in self.cell_acts(row, column) if act[0] == "add")
        if holds == "stock":
            return sum(self.shares(row, column))
        if holds == "letters":
            return "".join(sign for _, sign, shows in self.characters(row, column) if shows)
        shown = self.shown(row, column)
        return shown[-1] if shown else None

    # letters

    def removes(self, mark):
        return [spot for spot, act in self.acts
                if act == ("remove", mark) and self.knows(spot, mark[:3])]

    def dead(self, mark, later):
        name = fold_name(mark)
        if not self.closed(later, name):
            return False
        if name in self.changes and not self.effect[name]:
            return True
        return any(self.closed(later, fold_name(spot)) for spot in self.removes(mark))

    def characters(self, row, column):
        kept = dict(self.kept.texts).get((row, column), []) if self.kept else []
        listed = list(kept)
        for name in self.order:
            change = self.changes[name]
            if any(heard < cut for heard, cut in zip(change.heard, self.store.cut)):
                continue
            if not all(seal == name or self.related(seal, name) for seal in self.seals):
                continue
            for place, act in enumerate(self.part(name)):
                if act[0] != "insert" or act[1:3] != (row, column):
                    continue
                spot = name + (place,)
                if not self.knows(spot, row) or not self.knows(spot, column):
                    continue
                start = 0
                if act[3] is not None:
                    marks = [mark for mark, _ in listed]
                    if act[3] not in marks or not self.knows(spot, act[3][:3]) or self.dead(act[3], name):
                        continue
                    start = marks.index(act[3]) + 1
                listed[start:start] = [(spot + (index,), sign) for index, sign in enumerate(act[4])]
        marks_kept = [mark for mark, _ in kept]
        return [(mark, sign, (mark in marks_kept or self.effect.get(fold_name(mark), False))
                 and not self.removes(mark)) for mark, sign in listed]

    # stocks

    def stock_acts(self, row, column):
        return [(spot, act) for spot, act in self.cell_acts(row, column)
                if act[0] in ("add", "spend", "lend") and act[-1] >= 1
                and (act[0] != "lend" or (act[3] != spot[0] and act[3] < self.store.members))]

    def is_stock(self, row, column):
        table = self.table_of(row)
        if table is None or row not in self.live(table) or column not in self.columns(table):
            return False
        return self.holds(column) == "stock"

    def flows(self, row, column):
        if not self.is_stock(row, column):
            return []
        kept = dict(self.kept.shares) if self.kept else {}
        judged = []
        for spot, act in self.stock_acts(row, column):
            lacks = 0
            if act[0] != "add":
                mine = spot[0]
                knows = kept.get((row, column, mine), 0)
                for other, done, missing in judged:
                    if missing > 0:
                        continue
                    if other[0] == mine:
                        knows += done[-1] if done[0] == "add" else -done[-1]
                    elif done[0] == "lend" and done[3] == mine and self.knows(spot, other):
                        knows += done[-1]
                lacks = act[-1] - knows if act[-1] > knows else 0
            judged.append((spot, act, lacks))
        return judged

    def shares(self, row, column):
        told = [0] * self.store.members
        if not self.is_stock(row, column):
            return told
        for key, share in (self.kept.shares if self.kept else []):
            if key[:2] == (row, column):
                told[key[2]] += share
        for spot, act, missing in self.flows(row, column):
            if missing == 0:
                told[spot[0]] += act[-1] if act[0] == "add" else -act[-1]
                if act[0] == "lend":
                    told[act[3]] += act[-1]
        return told

    # rows that show

    def keys(self, row, columns):
        entries = [self.entry(row, column) for column in columns]
        if any(entry is None for entry in entries):
            return None
        return [(type(entry), entry) for entry in entries]

    def yields(self, row):
        table = self.table_of(row)
        for index, (_, columns) in enumerate(self.rules(table)):
            mine = self.keys(row, columns)
            if mine is None:
                continue
            first = [other for other in self.live(table) if self.keys(other, columns) == mine][0]
            if first != row:
                return ("yields", index, first)
        return None

    def reasons(self):
        rows = [row for table in self.tables() for row in self.live(table)]
        told = {row: self.yields(row) for row in rows}
        targets = {}
        for row in rows:
            columns = [c for c in self.columns(self.table_of(row)) if isinstance(self.holds(c), tuple)]
            targets[row] = [(c, self.entry(row, c)) for c in columns if self.entry(row, c) is not None]
        showing = [row for row in rows if told[row] is None]

        def bad(column, target):
            return target not in showing or self.table_of(target) != self.holds(column)[1]

        while any(bad(*pair) for row in showing for pair in targets[row]):
            showing = [row for row in showing if not any(bad(*pair) for pair in targets[row])]
        found = {}
        for row in rows:
            if told[row] is not None:
                found[row] = told[row]
            elif row not in showing:
                found[row] = [("refers",) + pair for pair in targets[row] if bad(*pair)][0]
        return found

    def conflicts(self):
        places = {spot: place for place, (spot, _) in enumerate(self.acts)}
        names = []
        named = sorted(self.tables() + list(self.lenses()), key=lambda spot: places[spot])
        for index, spot in enumerate(named):
            holders = [other for other in named[:index] if self.at[other][1] == self.at[spot][1]]
            if holders:
                names.append((spot, self.at[spot][1], holders[0]))
        for table in self.tables():
            columns = self.columns(table)
            for index, column in enumerate(columns):
                name = self.at[column][2]
                holders = [other for other in columns[:index] if self.at[other][2] == name]
                if name == "id":
                    names.append((column, name, None))
                elif holders:
                    names.append((column, name, holders[0]))
        rows = sorted([row for table in self.tables() for row in self.live(table)], key=lambda row: places[row])
        reasons = self.reasons()
        cells = [(row, column, tuple(self.shown(row, column))) for row in rows
                 for column in self.columns(self.table_of(row)) if len(self.shown(row, column)) > 1]
        return (names, [(row,) + reasons[row] for row in rows if row in reasons], cells)
