"""Names and kinds in questions: the check that comes ahead of an answer."""

from kithwhole.errors import (
    AggregateNotAllowed, AmbiguousColumn, ColumnCount, DuplicateSource, GroupingNotAllowed, KindMismatch, NotGrouped,
    NothingToShow, RowCount, UnknownColumn, UnknownParameter, UnknownPosition, UnknownTable,
)
from kithwhole.scopes import Given, find_columns, is_grouping, item_name, lists_aggregate
from kithwhole.values import COMPARISONS

# What the operands of the other operators must be; their results are of the same kind.
OPERAND_KINDS = {
    "+": "integer", "-": "integer", "*": "integer", "/": "integer", "mod": "integer", "||": "text",
    "and": "boolean", "or": "boolean",
}


class Scope:
    """The columns of a select, or of the two sides of a join, as triples of source, name and kind.

    `grouped` is None, or the list of the places of the columns that may be used where this scope is
    seen; `aggregates` tells whether an aggregate of the select may stand there.
    """

    def __init__(self, columns, grouped=None, aggregates=False):
        self.columns = columns
        self.grouped = grouped
        self.aggregates = aggregates


def kind_of(value):
    """Return the kind of a value."""
    if value is None:
        return "null"
    if isinstance(value, bool):
        return "boolean"
    return "integer" if isinstance(value, int) else "text"


def fits(first, second):
    """Return True if the two kinds fit."""
    return first == second or first == "null" or second == "null"


def common(first, second):
    """Return the common kind of two kinds that fit."""
    return second if first == "null" else first


def check(tree, sources, parameters):
    """Check a question and return the pairs of name and kind of the columns of its answer."""
    _, query, order, _ = tree
    columns = check_query(query, sources, parameters)
    names = [name for name, _ in columns]
    for key, _ in order:
        place_of_key(key, names)
    return columns


def check_query(query, sources, parameters):
    """Check a query and return the pairs of name and kind of its columns."""
    return _query(query, (), Given(sources, parameters))


def place_of_key(key, names):
    """Return the index of the column that an order key means among the columns with these names."""
    if isinstance(key, int):
        if not 1 <= key <= len(names):
            raise UnknownPosition(key)
        return key - 1
    if key not in names:
        raise UnknownColumn(key)
    if names.count(key) > 1:
        raise AmbiguousColumn(key)
    return names.index(key)


def _need(kind, needed):
    if not fits(kind, needed):
        raise KindMismatch(f"{kind} where {needed} is needed")


def _query(query, scopes, given):
    """Return the pairs of name and kind of the columns of a query that sees these scopes."""
    if query[0] == "select":
        return _select(query, scopes, given)
    _, _, first, second = query
    left = _query(first, scopes, given)
    right = _query(second, scopes, given)
    if len(left) != len(right):
        raise ColumnCount("the two queries have different numbers of columns")
    columns = []
    for (name, kind), (_, other) in zip(left, right):
        _need(other, kind)
        columns.append((name, common(kind, other)))
    return columns


def _single_column(query, scopes, given):
    """Return the kind of the only column of a query."""
    columns = _query(query, scopes, given)
    if len(columns) != 1:
        raise ColumnCount("a query in an expression has one column")
    return columns[0][1]


# selects


def _select(select, scopes, given):
    _, _, items, source, where, group, having = select
    columns = [] if source is None else _source(source, scopes, given)[1]
    plain = scopes + (Scope(columns),)
    if where is not None:
        _need(_kind(where, plain, given), "boolean")
    grouped = _grouped(() if group is None else group, plain, given)
    grouping = is_grouping(select)
    listed = scopes + (Scope(columns, grouped if grouping else None, True),)
    if items is None:
        if grouping or source is None:
            raise NothingToShow("there are no columns to show")
        made = [(name, kind) for _, name, kind in columns]
    else:
        made = [(item_name(item, name), _kind(item, listed, given)) for item, name in items]
    if having is not None:
        _need(_kind(having, listed, given), "boolean")
    return made


def _grouped(group, scopes, given):
    """Return the places of the columns by which a select groups its rows."""
    for expression in group:
        _kind(expression, scopes, given)
    places = []
    for expression in group:
        if expression[0] != "column":
            raise GroupingNotAllowed("rows are grouped by columns")
        level, place = _located(expression, scopes)
        if level != len(scopes) - 1:
            raise GroupingNotAllowed("rows are grouped by columns of their own select")
        places.append(place)
    return places


def _source(source, scopes, given):
    """Return the names of the sources in a source, and its columns as triples of source, name and kind."""
    if source[0] == "join":
        return _join(source, scopes, given)
    if source[0] == "subquery":
        _, query, alias = source
        return ([alias], [(alias, name, kind) for name, kind in _query(query, scopes, given)])
    _, name, alias = source
    if name not in given.sources:
        raise UnknownTable(name)
    table = given.sources[name]
    known = name if alias is None else alias
    return ([known], [(known, column, kind) for column, kind in zip(table.columns, table.kinds)])


def _join(source, scopes, given):
    _, left, right, condition, _ = source
    names, columns = _source(left, scopes, given)
    more_names, more_columns = _source(right, scopes, given)
    for name in names:
        if name in more_names:
            raise DuplicateSource(name)
    both = columns + more_columns
    _need(_kind(condition, scopes + (Scope(both),), given), "boolean")
    return (names + more_names, both)


# expressions


def _kind(expression, scopes, given):
    """Check an expression and return its kind."""
    checking = CHECKS[expression[0]]
    return checking(expression, scopes, given)


def _literal(expression, scopes, given):
    return kind_of(expression[1])


def _parameter(expression, scopes, given):
    number = expression[1]
    if not 1 <= number <= len(given.parameters):
        raise UnknownParameter(number)
    return kind_of(given.parameters[number - 1])


def _located(expression, scopes):
    """Return the index of the scope and the place there of the column that is meant."""
    _, source, name = expression
    found = find_columns([scope.columns for scope in scopes], source, name)
    if found is None:
        raise UnknownColumn(name if source is None else source + "." + name)
    level, places = found
    if len(places) > 1:
        raise AmbiguousColumn(name)
    return (level, places[0])


def _column(expression, scopes, given):
    level, place = _located(expression, scopes)
    scope = scopes[level]
    if scope.grouped is not None and place not in scope.grouped:
        raise NotGrouped(expression[2])
    return scope.columns[place][2]


def _not(expression, scopes, given):
    _need(_kind(expression[1], scopes, given), "boolean")
    return "boolean"


def _negate(expression, scopes, given):
    _need(_kind(expression[1], scopes, given), "integer")
    return "integer"


def _binary(expression, scopes, given):
    _, operator, first, second = expression
    left = _kind(first, scopes, given)
    right = _kind(second, scopes, given)
    if operator in COMPARISONS:
        _need(right, left)
        return "boolean"
    _need(left, OPERAND_KINDS[operator])
    _need(right, OPERAND_KINDS[operator])
    return OPERAND_KINDS[operator]


def _is_null(expression, scopes, given):
    _kind(expression[1], scopes, given)
    return "boolean"


def _in_list(expression, scopes, given):
    operand = _kind(expression[1], scopes, given)
    kinds = [_kind(item, scopes, given) for item in expression[2]]
    for kind in kinds:
        _need(kind, operand)
    return "boolean"


def _in_query(expression, scopes, given):
    operand = _kind(expression[1], scopes, given)
    _need(_single_column(expression[2], scopes, given), operand)
    return "boolean"


def _exists(expression, scopes, given):
    _query(expression[1], scopes, given)
    return "boolean"


def _scalar(expression, scopes, given):
    query = expression[1]
    kind = _single_column(query, scopes, given)
    if query[0] != "select" or query[5] is not None or query[6] is not None or not lists_aggregate(query):
        raise RowCount("a query that stands for a value has one row, whatever the rows of its sources are")
    return kind


def _case(expression, scopes, given):
    _, condition, first, second = expression
    _need(_kind(condition, scopes, given), "boolean")
    left = _kind(first, scopes, given)
    right = _kind(second, scopes, given)
    _need(right, left)
    return common(left, right)


def _check_place(scopes):
    if not scopes[-1].aggregates:
        raise AggregateNotAllowed("no aggregate may stand here")


def _count_all(expression, scopes, given):
    _check_place(scopes)
    return "integer"


def _aggregate(expression, scopes, given):
    _check_place(scopes)
    _, function, operand = expression
    kind = _kind(operand, scopes[:-1] + (Scope(scopes[-1].columns),), given)
    if function == "sum":
        _need(kind, "integer")
    return "integer" if function in ("count", "sum") else kind


CHECKS = {
    "literal": _literal, "parameter": _parameter, "column": _column, "not": _not, "negate": _negate,
    "binary": _binary, "is_null": _is_null, "in_list": _in_list, "in_query": _in_query, "exists": _exists,
    "scalar": _scalar, "case": _case, "count_all": _count_all, "aggregate": _aggregate,
}
