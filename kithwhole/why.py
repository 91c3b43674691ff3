"""Why a row of an answer is there: its ways, and the changes on which the rows of tables rest."""

from kithwhole.errors import NoReason
from kithwhole.holders import holding_tables
from kithwhole.kinds import check
from kithwhole.letters import characters
from kithwhole.meaning import prepared
from kithwhole.naming import parse_spot
from kithwhole.rights import allowed_seals, capability_info
from kithwhole.scopes import Given, has_query, is_grouping, item_name
from kithwhole.sheets import Sheet
from kithwhole.sources import source_name, source_parts
from kithwhole.stocks import flows
from kithwhole.store import is_cut
from kithwhole.undo import seals_off
from kithwhole.values import row_key


def ways(tree, sources, parameters, row):
    """Check the question and return the list of the ways of a row."""
    check(tree, sources, parameters)
    key = row_key(row)
    return [way for made, way in entries(tree[1], sources, parameters) if row_key(made) == key]


def entries(query, sources, parameters):
    """Return the pairs of a row and a way of a checked query."""
    if not _has_reasons(query):
        raise NoReason("no reasons are told for a query of this form")
    return _query(query, Given(sources, parameters))[1]


# the forms of queries for which reasons are told


def _has_reasons(query):
    if query[0] == "set":
        return query[1] in ("union", "union all") and _has_reasons(query[2]) and _has_reasons(query[3])
    _, _, items, source, where, _, _ = query
    expressions = [] if items is None else [expression for expression, _ in items]
    if where is not None:
        expressions.append(where)
    if is_grouping(query) or any([has_query(expression) for expression in expressions]):
        return False
    return source is None or _is_plain_source(source)


def _is_plain_source(source):
    if source[0] == "table":
        return True
    if source[0] == "subquery":
        return _has_reasons(source[1])
    _, left, right, condition, outer = source
    return not outer and not has_query(condition) and _is_plain_source(left) and _is_plain_source(right)


# queries: the names of their columns, and their entries


def _query(query, given):
    if query[0] == "select":
        return _select(query, given)
    names, first = _query(query[2], given)
    _, second = _query(query[3], given)
    return (names, first + second)


def _select(select, given):
    _, _, items, source, where, _, _ = select
    columns, found = _from(source, given)
    if where is not None:
        holds = prepared(where, (columns,), given)
        found = [(row, way) for row, way in found if holds((row,)) is True]
    if items is None:
        return ([name for _, name in columns], found)
    told = [prepared(item, (columns,), given) for item, _ in items]
    made = [(tuple([value((row,)) for value in told]), way) for row, way in found]
    return ([item_name(item, name) for item, name in items], made)


def _from(source, given):
    """Return the columns of a source as pairs of source and name, and its entries."""
    if source is None:
        return ([], [((), ())])
    if source[0] == "join":
        return _join(source, given)
    if source[0] == "subquery":
        names, found = _query(source[1], given)
        return ([(source[2], name) for name in names], found)
    _, name, alias = source
    table = given.sources[name]
    known = name if alias is None else alias
    # The id stands first in each row.
    return ([(known, column) for column in table.columns], [(row, ((name, row[0]),)) for row in table.rows])


def _join(source, given):
    _, left, right, condition, _ = source
    columns, first = _from(left, given)
    more_columns, second = _from(right, given)
    both = columns + more_columns
    holds = prepared(condition, (both,), given)
    found = []
    for row, way in first:
        pairs = [(row + other, way + more) for other, more in second]
        found.extend([(pair, told) for pair, told in pairs if holds((pair,)) is True])
    return (both, found)


# the changes on which a row rests


def rests_on(store, allowed, source, row):
    """Return the list of the names of the changes on which a row of a source rests."""
    space = int(source[1])
    sheet = Sheet(store, allowed, space)
    named = [spot for spot, _ in holding_tables(sheet) if source_name(sheet, space, spot) == source]
    written = parse_spot(row)
    ground = Ground(store, allowed)
    ground.put(written)
    table, shown, fixed = source_parts(sheet, named[0])
    for spot in [table] + _lenses_up_to(sheet, named[0]):
        ground.put(spot)
    columns = [column for column, _ in shown]
    for column in columns + [column for column, _ in fixed if column not in columns]:
        ground.put(column)
        for spot in _spots_in_cell(store, allowed, sheet, ground, (space, written, column)):
            ground.put(spot)
    return ground.names


def _lenses_up_to(sheet, spot):
    """Return the lenses from the one on the table up to this one; there are none up to a table."""
    found = []
    while spot in sheet.lenses:
        found = [spot] + found
        spot = sheet.act_of(spot)[2]
    return found


def _spots_in_cell(store, allowed, sheet, ground, cell):
    """Return the spots of the acts that count in a cell, in order."""
    space, row, column = cell
    holds = sheet.holds(column)
    if holds == "counter":
        added = [spot for spot, act in sheet.cell_acts(row, column) if act[0] == "add"]
        return [spot for spot in added if not ground.is_sealed(spot[:2])]
    if holds == "stock":
        judged = [spot for spot, _, missing in flows(sheet, row, column) if missing == 0]
        return [spot for spot in judged if not ground.is_sealed(spot[:2])]
    if holds == "letters":
        return [mark[:3] for mark, _, shows in characters(store, allowed, space, row, column) if shows]
    counted = sheet.counted(row, column)
    return [] if counted is None else [counted]


class Ground:
    """The names of the changes on which something rests, each once, with those that granted the right to them."""

    def __init__(self, store, allowed):
        self.names = []
        self._store = store
        self._seals = allowed_seals(store, allowed)
        self._stood = {}

    def is_sealed(self, name):
        """Return True if the change with this name is an allowed seal, in the past of one, or cut away."""
        return is_cut(self._store, name) or any([seals_off(seal, name) for seal in self._seals])

    def put(self, spot):
        """Put the change of an act, and behind it those that granted its capability, as far up as it is told."""
        name = spot[:2]
        self._note(name)
        if self.is_sealed(name):
            return
        capability = self._store.find(name).capability
        while capability is not None:
            self._note(capability[:2])
            info = capability_info(self._store, capability)
            # Nothing is told of the parent of a kept capability that is not kept itself.
            capability = None if info is None else info[0]

    def _note(self, name):
        if name not in self._stood:
            self._stood[name] = True
            self.names.append(name)
