"""Sheets: the tables, columns, rules, rows and lenses of a space, and the entries of its cells."""

from kithwhole.cells import has_kind, is_reference, shown_writes
from kithwhole.letters import Letters
from kithwhole.rights import allowed_seals
from kithwhole.stocks import shares
from kithwhole.store import Kept, is_cut
from kithwhole.undo import acts_of, is_closed_for, knows, taking_effect

CELL_ACTS = ("put", "refer", "add", "spend", "lend")
WRITES = ("put", "refer")
# What columns hold that have no single value that is written.
GATHERED = ("counter", "stock", "letters")


class Sheet:
    """What the effective acts of a space make.

    It keeps a copy of the store, so that no later change of the store has an effect on it.
    """

    def __init__(self, store, allowed, space):
        self._store = store.copy()
        allowed = {name: allowed[name] for name in allowed}
        self._allowed = allowed
        self._seals = allowed_seals(self._store, allowed)
        self._letters = Letters(self._store, allowed, space)
        kept = self._store.kept[space]
        kept = Kept([], [], []) if kept is None else kept
        self._kept_sums = {cell: total for cell, total in kept.sums}
        self._kept_shares = {place: share for place, share in kept.shares}
        self.members = self._store.members
        self.acts = acts_of(self._store, taking_effect(self._store, allowed, space), space)
        self.place = {spot: place for place, (spot, _) in enumerate(self.acts)}
        self._act_of = {spot: act for spot, act in self.acts}
        self._drops = {}
        self._cells = {}
        self._gather()
        self.tables = [spot for spot, act in self.acts if act[0] == "table"]
        self.columns = {table: [] for table in self.tables}
        self.rules = {table: [] for table in self.tables}
        self.rule_spots = {table: [] for table in self.tables}
        self.live = {table: [] for table in self.tables}
        self.lenses = []
        self._lens_of = {}
        self._table_of_column = {}
        self._table_of_row = {}
        self._make_columns_and_rows()
        self._make_rules()
        self._make_lenses()

    def _gather(self):
        """Note the drops of each row, and the acts for each pair of a row and a column."""
        for spot, act in self.acts:
            if act[0] == "drop" and self.knows(spot, act[1]):
                self._drops.setdefault(act[1], []).append(spot)
            if act[0] in CELL_ACTS:
                self._cells.setdefault((act[1], act[2]), []).append((spot, act))

    def _make_columns_and_rows(self):
        for spot, act in self.acts:
            if act[0] not in ("column", "row") or not self._is_table(spot, act[1]):
                continue
            if act[0] == "column":
                self._table_of_column[spot] = act[1]
                self.columns[act[1]].append(spot)
            else:
                self._table_of_row[spot] = act[1]
                if spot not in self._drops:
                    self.live[act[1]].append(spot)

    def _is_table(self, spot, table):
        """Return True if there is such a table and the act with the spot knows it."""
        return table in self.columns and self.knows(spot, table)

    def _make_rules(self):
        for spot, act in self.acts:
            if act[0] == "unique" and self._is_rule(spot, act):
                self.rules[act[1]].append(tuple(act[2]))
                self.rule_spots[act[1]].append(spot)

    def _is_rule(self, spot, act):
        if len(act[2]) == 0 or not self._is_table(spot, act[1]):
            return False
        return all([self._may_rule(spot, act[1], column) for column in act[2]])

    def _may_rule(self, spot, table, column):
        if self._table_of_column.get(column) != table or not self.knows(spot, column):
            return False
        return self.holds(column) not in GATHERED

    def _make_lenses(self):
        for spot, act in self.acts:
            if act[0] == "lens" and self._is_lens(spot, act):
                table, fixed = act[2], []
                if act[2] in self._lens_of:
                    table, _, fixed = self._lens_of[act[2]]
                self.lenses.append(spot)
                self._lens_of[spot] = (table, list(act[3]), fixed + list(act[4]))

    def _is_lens(self, spot, act):
        columns = self._columns_of_base(act[2])
        if columns is None or not self.knows(spot, act[2]):
            return False
        shown = [column for column, _ in act[3]]
        names = [name for _, name in act[3]]
        fixed = [column for column, _ in act[4]]
        if not all([column in columns and self.knows(spot, column) for column in shown + fixed]):
            return False
        if _has_twice(shown) or _has_twice(names) or _has_twice(fixed) or "id" in names:
            return False
        return all([has_kind(self.holds(column), value) for column, value in act[4]])

    def _columns_of_base(self, base):
        """Return the columns of a table or of a lens, or None if it is neither."""
        if base in self._lens_of:
            return [column for column, _ in self._lens_of[base][1]]
        return self.columns.get(base)

    def lens(self, spot):
        """Return the table of a lens, the pairs that it shows and the pairs that are fixed in it."""
        table, shown, fixed = self._lens_of[spot]
        return (table, list(shown), list(fixed))

    def knows(self, spot, other):
        """Return True if the first act is of a change that is cut away, or knows the other one."""
        return is_cut(self._store, spot[:2]) or knows(self._store, spot, other)

    def act_of(self, spot):
        """Return the effective act with this spot, or None."""
        return self._act_of.get(spot)

    def holds(self, column):
        """Return what the column holds, or None if there is no such column."""
        if column not in self._table_of_column:
            return None
        return self._act_of[column][3]

    def table_of(self, spot):
        """Return the table of a row or a column that is made, otherwise None."""
        if spot in self._table_of_column:
            return self._table_of_column[spot]
        return self._table_of_row.get(spot)

    def is_live(self, row):
        """Return True if the row is made and is not dropped."""
        return row in self._table_of_row and row not in self._drops

    def is_cell(self, row, column):
        """Return True if both are made, as a row and a column of one table."""
        return row in self._table_of_row and self._table_of_column.get(column) == self._table_of_row[row]

    def cell_acts(self, row, column):
        """Return the pairs of a spot and an act of the acts for a cell that know its row and its column."""
        acts = self._cells.get((row, column), [])
        return [(spot, act) for spot, act in acts if self.knows(spot, row) and self.knows(spot, column)]

    def kept_share(self, row, column, member):
        """Return the share of the member that is kept of the cell."""
        return self._kept_shares.get((row, column, member), 0)

    def writes(self, row, column):
        """Return the spots of the writes that have an effect on the cell, in order."""
        if not self.is_cell(row, column):
            return []
        holds = self.holds(column)
        return [spot for spot, act in self.cell_acts(row, column) if self._has_effect(spot, act, holds)]

    def _has_effect(self, spot, act, holds):
        if act[0] not in WRITES or holds in GATHERED:
            return False
        if is_cut(self._store, spot[:2]):
            return True
        if is_reference(holds):
            return act[0] == "refer" and self._may_refer(spot, act[3], holds[1])
        return act[0] == "put" and has_kind(holds, act[3])

    def _may_refer(self, spot, target, table):
        if target is None:
            return True
        if self._table_of_row.get(target) != table or not self.knows(spot, target):
            return False
        change = self._store.find(spot[:2])
        drops = self._drops.get(target, [])
        return not any([is_closed_for(self._store, self._seals, change, drop[:2]) for drop in drops])

    def showing_writes(self, row, column):
        """Return the spots of the writes that show in the cell, in order."""
        return shown_writes(self._store, self._allowed, self.writes(row, column))

    def shown(self, row, column):
        """Return the values, or references, that show in the cell, in order."""
        return [self._act_of[spot][3] for spot in self.showing_writes(row, column)]

    def counted(self, row, column):
        """Return the spot of the write that counts, or None."""
        showing = self.showing_writes(row, column)
        return showing[-1] if showing else None

    def entry(self, row, column):
        """Return the value of the cell."""
        if not self.is_cell(row, column):
            return None
        holds = self.holds(column)
        if holds == "counter":
            return self._total(row, column)
        if holds == "stock":
            return sum(shares(self, row, column))
        if holds == "letters":
            return self._letters.text(row, column)
        spot = self.counted(row, column)
        return None if spot is None else self._act_of[spot][3]

    def _total(self, row, column):
        added = [act[3] for _, act in self.cell_acts(row, column) if act[0] == "add"]
        return self._kept_sums.get((row, column), 0) + sum(added)


def _has_twice(things):
    return len(set(things)) < len(things)
