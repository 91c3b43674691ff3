"""What stands behind the acts of edits, and what should."""

from kithwhole.naming import format_name
from kithwhole.sheets import Sheet
from kithwhole.sources import source_parts, told_rows, told_value
from kithwhole.values import row_key
from kithwhole.yielding import all_showing

# What a cell of a new row has without any act, where that is not None.
NOTHING = {"counter": 0, "stock": 0, "letters": ""}


class Stand:
    """What stands in a space: its sheet, and for each table the rows that show."""

    def __init__(self, store, allowed, space):
        self.sheet = Sheet(store, allowed, space)
        self.rows = all_showing(self.sheet)

    def source_rows(self, spot):
        """Return the rows of a table or a lens."""
        parts = source_parts(self.sheet, spot)
        return told_rows(parts, self.rows[parts[0]], self.told)

    def told(self, row, column):
        """Return the value of a cell as a source tells it."""
        return told_value(self.sheet, row, column)


class Due:
    """What is due behind an edit through a lens: what stands ahead of it, but for its row and what it writes."""

    def __init__(self, ahead, lens, row, acts):
        self._ahead = ahead
        self._lens = lens
        self._row = row
        self._makes = False
        self._drops = False
        self._written = {}
        for act in acts:
            if act[0] == "row":
                self._makes = True
            elif act[0] == "drop":
                self._drops = True
            else:
                self._written[act[2]] = format_name(act[3]) if isinstance(act[3], tuple) else act[3]

    def source_rows(self, spot):
        """Return the rows that are due in a table or a lens."""
        parts = source_parts(self._ahead.sheet, spot)
        rows = self._table_rows(parts[0])
        # The lens of the edit has its row, whatever is fixed there.
        return told_rows(parts, rows, self._told, self._row if spot == self._lens else None)

    def _table_rows(self, table):
        rows = self._ahead.rows[table]
        if self._drops:
            return [row for row in rows if row != self._row]
        if self._makes and table == self._ahead.sheet.lens(self._lens)[0]:
            return rows + [self._row]
        return rows

    def _told(self, row, column):
        if row != self._row:
            return self._ahead.told(row, column)
        if column in self._written:
            return self._written[column]
        return NOTHING.get(self._ahead.sheet.holds(column)) if self._makes else self._ahead.told(row, column)


def unlike_row(rows, due):
    """Return the first of the rows that is not due so, or the first that is due and not there so, or None."""
    for some, others in ((rows, due), (due, rows)):
        told = {row_key(row): True for row in others}
        for row in some:
            if row_key(row) not in told:
                return row
    return None
