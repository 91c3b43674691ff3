"""Edits through a lens: the acts that they become, and whether they turn just what is due."""

from kithwhole.cells import has_kind, is_reference
from kithwhole.counting import next_change, with_change, would_count
from kithwhole.dues import Due, Stand, unlike_row
from kithwhole.errors import NoSuchRow, NotWritable, TurnsMore, UncountedChange, WrongValue
from kithwhole.holders import holding_tables, named_tables
from kithwhole.naming import format_name, parse_spot
from kithwhole.rights import verdicts
from kithwhole.sheets import GATHERED
from kithwhole.sources import source_name
from kithwhole.store import SPACES


def through(store, member, capability, space, lens, edits):
    """Return the acts of the edits for the next change of the member, if they are taken."""
    change = next_change(store, member, capability, (), [() for _ in range(SPACES)])
    if not would_count(store, change, [space]):
        raise UncountedChange("a change with an act in the space would not count")
    desk = Desk(store, change, space, lens)
    for place, edit in enumerate(edits):
        desk.take(place, edit)
    return desk.acts


class Desk:
    """The edits that were taken through a lens so far: their acts, and what stands behind them."""

    def __init__(self, store, change, space, lens):
        self.acts = []
        self._store = store
        self._change = change
        # Verdicts do not depend on the acts, so they are the same behind each edit.
        self._allowed = verdicts(with_change(store, change))
        self._space = space
        self._lens = lens
        self._ahead = self._behind([])

    def _behind(self, acts):
        """Return what stands behind the change with these acts."""
        parts = [acts if space == self._space else () for space in range(SPACES)]
        store = with_change(self._store, self._change.with_parts(parts))
        return Stand(store, self._allowed, self._space)

    def take(self, place, edit):
        """Take one more edit, the one with the index `place`."""
        row, acts = self._translated(place, edit)
        behind = self._behind(self.acts + acts)
        due = Due(self._ahead, self._lens, row, acts)
        for spot in self._compared():
            unlike = unlike_row(behind.source_rows(spot), due.source_rows(spot))
            if unlike is not None:
                raise TurnsMore(place, source_name(self._ahead.sheet, self._space, spot), unlike[0])
        self.acts = self.acts + acts
        self._ahead = behind

    def _compared(self):
        """Return the tables and lenses that hold their names, and the lens of the edits, in order."""
        held = [spot for spot, _ in holding_tables(self._ahead.sheet)]
        return [spot for spot, _ in named_tables(self._ahead.sheet) if spot in held or spot == self._lens]

    def _translated(self, place, edit):
        """Return the row of an edit and the list of its acts."""
        if edit[0] == "new":
            return self._making(place, edit[1])
        row = self._shown_row(place, edit[1])
        if edit[0] == "gone":
            return (row, [("drop", row)])
        return (row, [self._writing(place, row, edit[2], edit[3])])

    def _making(self, place, values):
        table, _, fixed = self._ahead.sheet.lens(self._lens)
        row = self._change.name() + (len(self.acts),)
        writes = [("put", row, column, value) for column, value in fixed]
        for name in values:
            writes.append(self._writing(place, row, name, values[name]))
        return (row, [("row", table)] + [write for write in writes if write[3] is not None])

    def _shown_row(self, place, written):
        """Return the row of the lens with this written form."""
        if written not in [row[0] for row in self._ahead.source_rows(self._lens)]:
            raise NoSuchRow(place)
        return parse_spot(written)

    def _writing(self, place, row, name, value):
        """Return the act that writes a value under a name of the lens."""
        column = self._writable(name)
        if column is None:
            raise NotWritable(place, name)
        holds = self._ahead.sheet.holds(column)
        if not is_reference(holds):
            if not has_kind(holds, value):
                raise WrongValue(place, name)
            return ("put", row, column, value)
        if value is None:
            return ("refer", row, column, None)
        if value not in [format_name(target) for target in self._ahead.rows.get(holds[1], [])]:
            raise WrongValue(place, name)
        return ("refer", row, column, parse_spot(value))

    def _writable(self, name):
        """Return the column that can be written under the name, or None."""
        sheet = self._ahead.sheet
        _, shown, fixed = sheet.lens(self._lens)
        kept = [column for column, _ in fixed]
        for column, told in shown:
            if told == name and column not in kept and sheet.holds(column) not in GATHERED:
                return column
        return None
