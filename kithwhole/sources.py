"""The sources of questions: tables and lenses that hold their names, with the rows that show."""

from kithwhole.cells import is_reference
from kithwhole.holders import ID, holding_columns, holding_tables
from kithwhole.naming import format_name
from kithwhole.rights import verdicts
from kithwhole.sheets import Sheet
from kithwhole.store import SPACES
from kithwhole.values import same
from kithwhole.yielding import all_showing

KINDS = {
    "integer": "integer", "counter": "integer", "stock": "integer", "boolean": "boolean", "text": "text",
    "letters": "text",
}


class Source:
    """A table as questions see it."""

    def __init__(self, name, columns, kinds, rows):
        self.name = name
        self.columns = list(columns)
        self.kinds = list(kinds)
        self.rows = list(rows)


def sources(store, allowed, space):
    """Return the list of the sources of a space, in the order of their tables and lenses."""
    sheet = Sheet(store, allowed, space)
    showing = all_showing(sheet)
    return [_source(sheet, showing, space, spot) for spot, _ in holding_tables(sheet)]


def all_sources(store):
    """Return a dict with the source for each name, over all spaces."""
    allowed = verdicts(store)
    found = {}
    for space in range(SPACES):
        for source in sources(store, allowed, space):
            found[source.name] = source
    return found


def source_name(sheet, space, spot):
    """Return the name of a table or a lens as a source."""
    return f"s{space}_{sheet.act_of(spot)[1]}"


def source_parts(sheet, spot):
    """Return the table of a table or a lens, the pairs that its source shows, and the pairs that are fixed."""
    if spot in sheet.columns:
        return (spot, holding_columns(sheet, spot), [])
    return sheet.lens(spot)


def told_value(sheet, row, column):
    """Return the value of a cell as a source tells it."""
    entry = sheet.entry(row, column)
    return format_name(entry) if isinstance(entry, tuple) else entry


def told_rows(parts, rows, told, always=None):
    """Return the tuples of those of the rows of the table that have the fixed values, and of one in any case.

    `told` is a function of a row and a column that returns the value of the cell as a source tells it.
    """
    _, shown, fixed = parts
    found = []
    for row in rows:
        if row == always or all([same(told(row, column), value) for column, value in fixed]):
            found.append((format_name(row),) + tuple([told(row, column) for column, _ in shown]))
    return found


def _source(sheet, showing, space, spot):
    parts = source_parts(sheet, spot)
    table, shown, _ = parts
    columns = [ID] + [name for _, name in shown]
    kinds = ["text"] + [_kind(sheet.holds(column)) for column, _ in shown]
    rows = told_rows(parts, showing[table], lambda row, column: told_value(sheet, row, column))
    return Source(source_name(sheet, space, spot), columns, kinds, rows)


def _kind(holds):
    return "text" if is_reference(holds) else KINDS[holds]
