"""Rows that yield, rows that show, the reasons why rows do not show, and conflicts."""

from kithwhole.cells import is_reference
from kithwhole.holders import unheld_names


def reasons(sheet):
    """Return for each live row that does not show the reason why."""
    yields = _yields(sheet)
    references = _references(sheet)
    hidden = _hidden(sheet, yields, references)
    found = {}
    for row in hidden:
        found[row] = yields[row] if row in yields else _refers(sheet, hidden, references[row])
    return found


def showing(sheet, table):
    """Return the list of the rows of the table that show, in order."""
    return all_showing(sheet)[table]


def all_showing(sheet):
    """Return for each table the list of its rows that show, in order."""
    hidden = reasons(sheet)
    return {table: [row for row in sheet.live[table] if row not in hidden] for table in sheet.tables}


def conflicts(sheet):
    """Return the lists of the conflicts about names, rows and cells."""
    return (unheld_names(sheet), _row_conflicts(sheet), _cell_conflicts(sheet))


def _yields(sheet):
    """Return for each row that yields the first rule by which it does, and the row that holds the key."""
    found = {}
    for table in sheet.tables:
        for index, columns in enumerate(sheet.rules[table]):
            holders = {}
            for row in sheet.live[table]:
                key = _key(sheet, row, columns)
                if key is None:
                    continue
                holder = holders.setdefault(key, row)
                if holder != row and row not in found:
                    found[row] = ("yields", index, holder)
    return found


def _key(sheet, row, columns):
    """Return the key of the row by a rule, or None if an entry is None."""
    entries = [sheet.entry(row, column) for column in columns]
    if None in entries:
        return None
    # Python takes True and 1 as equal; here they are of different kinds.
    return tuple([(isinstance(entry, bool), entry) for entry in entries])


def _references(sheet):
    """Return for each live row the pairs of a column and the row to which it refers there, in order."""
    return {row: _references_of(sheet, row) for row in _live_rows(sheet)}


def _references_of(sheet, row):
    columns = [column for column in sheet.columns[sheet.table_of(row)] if is_reference(sheet.holds(column))]
    targets = [(column, sheet.entry(row, column)) for column in columns]
    return [(column, target) for column, target in targets if target is not None]


def _hidden(sheet, yields, references):
    """Return a dict of the live rows that do not show, in the order of the effective acts.

    Rows are only taken away from those that might show, so what remains is the largest such set.
    """
    referring = {}
    gone = {}
    queue = []
    for row in references:
        for _, target in references[row]:
            referring.setdefault(target, []).append(row)
        if row in yields or not _has_fit_targets(sheet, references[row]):
            gone[row] = True
            queue.append(row)
    while queue:
        target = queue.pop()
        for row in referring.get(target, []):
            if row not in gone:
                gone[row] = True
                queue.append(row)
    return {row: True for row in references if row in gone}


def _has_fit_targets(sheet, references):
    return all([_is_fit_target(sheet, column, target) for column, target in references])


def _is_fit_target(sheet, column, target):
    return sheet.is_live(target) and sheet.table_of(target) == sheet.holds(column)[1]


def _refers(sheet, hidden, references):
    for column, target in references:
        if target in hidden or not _is_fit_target(sheet, column, target):
            return ("refers", column, target)
    return None


def _live_rows(sheet):
    """Return the live rows of all tables together, in the order of the effective acts."""
    rows = [(sheet.place[row], row) for table in sheet.tables for row in sheet.live[table]]
    return [row for _, row in sorted(rows)]


def _row_conflicts(sheet):
    found = reasons(sheet)
    return [(row,) + found[row] for row in found]


def _cell_conflicts(sheet):
    found = []
    for row in _live_rows(sheet):
        for column in sheet.columns[sheet.table_of(row)]:
            values = sheet.shown(row, column)
            if len(values) > 1:
                found.append((row, column, tuple(values)))
    return found
