"""Points 118 to 121, read once more: what is due behind edits, worked out on plain dicts.

A picture of a space has the rows of all tables that show and all of their cells. An edit changes the picture
as point 120 tells, and the new picture is held against the one that the store has behind the acts.
"""

from kithwhole import errors
from kithwhole.changes import Change
from kithwhole.rights import verdicts
from kithwhole.store import SPACES
from tests.oracle import Oracle


def written(entry):
    return ".".join(map(str, entry)) if isinstance(entry, tuple) else entry


def alike(first, second):
    return type(first) is type(second) and first == second


class Picture:
    def __init__(self, oracle):
        self.oracle = oracle
        self.lenses = oracle.lenses()
        hidden = oracle.reasons()
        self.rows = {table: [row for row in oracle.live(table) if row not in hidden] for table in oracle.tables()}
        self.cells = {(row, column): written(oracle.entry(row, column))
                      for table in self.rows for row in self.rows[table] for column in oracle.columns(table)}
        places = [spot for spot, _ in oracle.acts]
        self.named = sorted(list(self.rows) + list(self.lenses), key=places.index)

    def changed(self, lens, row, acts):
        """The picture that is due behind the acts of an edit."""
        twin = object.__new__(Picture)
        twin.__dict__ = {**self.__dict__, "rows": dict(self.rows), "cells": dict(self.cells)}
        table = self.lenses[lens][0]
        for act in acts:
            if act[0] == "row":
                twin.rows[table] = self.rows[table] + [row]
                for column in self.oracle.columns(table):
                    empty = {"counter": 0, "stock": 0, "letters": ""}
                    holds = self.oracle.holds(column)
                    twin.cells[(row, column)] = None if isinstance(holds, tuple) else empty.get(holds)
            elif act[0] == "drop":
                twin.rows[table] = [each for each in self.rows[table] if each != row]
            else:
                twin.cells[(row, act[2])] = written(act[3])
        return twin

    def holding(self):
        names, found = [], []
        for spot in self.named:
            if self.oracle.at[spot][1] not in names:
                names.append(self.oracle.at[spot][1])
                found.append(spot)
        return found

    def told(self, spot, always=None):
        """The rows of a table or a lens, with one row in any case if its table has it."""
        if spot in self.rows:
            columns, fixed, table = [], [], spot
            names = ["id"]
            for column in self.oracle.columns(spot):
                if self.oracle.at[column][2] not in names:
                    names.append(self.oracle.at[column][2])
                    columns.append(column)
        else:
            table, shown, fixed = self.lenses[spot]
            columns = [column for column, _ in shown]
        return [(written(row),) + tuple(self.cells[(row, column)] for column in columns) for row in self.rows[table]
                if row == always or all(alike(self.cells[(row, column)], value) for column, value in fixed)]


class Editing:
    def __init__(self, store, member, capability, space, lens):
        self.store = store
        self.space = space
        self.lens = lens
        self.base = Change(member, store.count(member) + 1, store.counts(), capability, (), [()] * SPACES)
        self.acts = []

    def would_count(self):
        """Point 105, told by the oracle of the store with the change."""
        later, member = self.with_acts(()), self.base.author
        allowed = verdicts(later)
        oracle = Oracle(later, allowed, self.space)
        capability = self.base.capability
        if not oracle.fit(self.base.name()) or not allowed[self.base.name()]:
            return False
        before = Oracle(self.store, verdicts(self.store), self.space)
        return oracle.stated(capability)[2][self.space][1] and before.held(capability) and member in range(6)

    def with_acts(self, acts):
        later = self.store.copy()
        later.add(self.base.with_parts([tuple(acts) if space == self.space else () for space in range(SPACES)]))
        return later

    def picture(self, acts):
        later = self.with_acts(acts)
        return Picture(Oracle(later, verdicts(later), self.space))

    def run(self, edits):
        if not self.would_count():
            raise errors.UncountedChange("")
        for place, edit in enumerate(edits):
            self.one(place, edit)
        return self.acts

    def one(self, place, edit):
        ahead = self.picture(self.acts)
        row, acts = self.translated(place, edit, ahead)
        behind = self.picture(self.acts + acts)
        due = ahead.changed(self.lens, row, acts)
        holding = ahead.holding()
        for spot in ahead.named:
            if spot not in holding and spot != self.lens:
                continue
            has, wanted = behind.told(spot), due.told(spot, row if spot == self.lens else None)
            strange = [each for each in has if not any(all(map(alike, each, other)) for other in wanted)]
            strange += [each for each in wanted if not any(all(map(alike, each, other)) for other in has)]
            if strange:
                raise errors.TurnsMore(place, f"s{self.space}_{ahead.oracle.at[spot][1]}", strange[0][0])
            assert has == wanted
        self.acts = self.acts + acts

    def translated(self, place, edit, ahead):
        table, _, fixed = ahead.lenses[self.lens]
        if edit[0] == "new":
            row = self.base.name() + (len(self.acts),)
            acts = [("put", row, column, value) for column, value in fixed if value is not None]
            for name, value in edit[1].items():
                act = self.write(place, row, name, value, ahead)
                acts += [act] if value is not None else []
            return row, [("row", table)] + acts
        if edit[1] not in [row[0] for row in ahead.told(self.lens)]:
            raise errors.NoSuchRow(place)
        row = [each for each in ahead.rows[table] if written(each) == edit[1]][0]
        if edit[0] == "gone":
            return row, [("drop", row)]
        return row, [self.write(place, row, edit[2], edit[3], ahead)]

    def write(self, place, row, name, value, ahead):
        _, shown, fixed = ahead.lenses[self.lens]
        columns = [column for column, each in shown if each == name]
        if not columns or columns[0] in dict(fixed):
            raise errors.NotWritable(place, name)
        holds = ahead.oracle.holds(columns[0])
        if holds in ("counter", "stock", "letters"):
            raise errors.NotWritable(place, name)
        if isinstance(holds, tuple):
            targets = [each for each in ahead.rows.get(holds[1], []) if written(each) == value]
            if value is not None and not targets:
                raise errors.WrongValue(place, name)
            return ("refer", row, columns[0], targets[0] if targets else None)
        if value is not None and type(value) is not {"integer": int, "text": str, "boolean": bool}[holds]:
            raise errors.WrongValue(place, name)
        return ("put", row, columns[0], value)
