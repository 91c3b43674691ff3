"""Which of several tables, lenses and columns with one name holds it.

A sheet is asked for all that is needed here, so this file does not import it.
"""

# No column holds this name, since each row is called so.
ID = "id"


def named_tables(sheet):
    """Return the pairs of spot and name of all tables and lenses, in the order of the effective acts."""
    places = sorted([(sheet.place[spot], spot) for spot in sheet.tables + sheet.lenses])
    return [(spot, sheet.act_of(spot)[1]) for _, spot in places]


def named_columns(sheet, table):
    """Return the pairs of spot and name of the columns of a table, in order."""
    return [(column, sheet.act_of(column)[2]) for column in sheet.columns[table]]


def holding_tables(sheet):
    """Return the pairs of spot and name of the tables and lenses that hold their names, in order."""
    return _held(named_tables(sheet), {})


def holding_columns(sheet, table):
    """Return the pairs of spot and name of the columns of a table that hold their names, in order."""
    return _held(named_columns(sheet, table), {ID: None})


def unheld_names(sheet):
    """Return the triples of what does not hold its name, the name, and what holds it or None."""
    found = _unheld(named_tables(sheet), {})
    for table in sheet.tables:
        found = found + _unheld(named_columns(sheet, table), {ID: None})
    return found


def _holders(named, taken):
    """Return for each name what holds it: the first one that has it, if the name is not taken."""
    held = {name: taken[name] for name in taken}
    for spot, name in named:
        held.setdefault(name, spot)
    return held


def _held(named, taken):
    held = _holders(named, taken)
    return [(spot, name) for spot, name in named if held[name] == spot]


def _unheld(named, taken):
    held = _holders(named, taken)
    return [(spot, name, held[name]) for spot, name in named if held[name] != spot]
