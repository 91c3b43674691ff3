"""What questions mean: the rows of queries and the answers of questions.

Trees are turned into functions of the rows that their scopes stand at, so that names are looked up
once and not for each row. These rows are a tuple: the row of the innermost scope stands last. In the
list of a select that groups, one more scope without columns stands behind the select's own one; there
the tuple has the rows of the group.
"""

from kithwhole.kinds import check, place_of_key
from kithwhole.scopes import Given, find_columns, is_grouping, item_name
from kithwhole.values import (
    COMPARISONS, arithmetic, bounded, compare, conjunction, disjunction, distinct_rows, negation, row_key, same,
    value_key,
)


def answer(tree, sources, parameters):
    """Check the question and return the names of the columns and the rows of its answer."""
    _, query, order, limit = tree
    names = [name for name, _ in check(tree, sources, parameters)]
    rows = sorted(query_rows(query, sources, parameters), key=row_key)
    # Sorting keeps the order of rows that tie, so the key that decides first comes last.
    for key, descending in reversed(order):
        rows = _sorted_by(rows, place_of_key(key, names), descending)
    return (names, rows if limit is None else rows[:limit])


def _sorted_by(rows, place, descending):
    pairs = [(value_key(row[place]), row) for row in rows]
    if descending:
        pairs = sorted(pairs, key=lambda pair: pair[0], reverse=True)
    else:
        pairs = sorted(pairs, key=lambda pair: pair[0])
    return [row for _, row in pairs]


def query_rows(query, sources, parameters):
    """Return the rows of a checked query, in the order in which they are made."""
    _, rows = _query(query, (), Given(sources, parameters))
    return rows(())


# queries: the names of their columns, and a function that makes their rows


def _query(query, scopes, given):
    if query[0] == "select":
        return _select(query, scopes, given)
    _, operator, first, second = query
    names, left = _query(first, scopes, given)
    _, right = _query(second, scopes, given)
    return (names, lambda at: combined(operator, left(at), right(at)))


def combined(operator, left, right):
    """Return the rows of a set operator."""
    if operator == "union all":
        return left + right
    if operator == "union":
        return distinct_rows(left + right)
    others = {row_key(row): True for row in right}
    wanted = operator == "intersect"
    return [row for row in distinct_rows(left) if (row_key(row) in others) == wanted]


def _select(select, scopes, given):
    _, distinct, items, source, where, group, having = select
    columns, made = _from(source, scopes, given)
    plain = scopes + (columns,)
    grouping = is_grouping(select)
    listed = plain + ((),) if grouping else plain
    kept = None if where is None else prepared(where, plain, given)
    keys = None if group is None else [prepared(key, plain, given) for key in group]
    wanted = None if having is None else prepared(having, listed, given)
    names = [name for _, name in columns]
    told = None
    if items is not None:
        names = [item_name(item, name) for item, name in items]
        told = [prepared(item, listed, given) for item, _ in items]

    def rows(at):
        found = made(at)
        if kept is not None:
            found = [row for row in found if kept(at + (row,)) is True]
        places = [at + (row,) for row in found]
        if grouping:
            places = grouped_places(at, found, keys)
        if wanted is not None:
            places = [place for place in places if wanted(place) is True]
        if told is not None:
            found = [tuple([value(place) for value in told]) for place in places]
        return distinct_rows(found) if distinct else found

    return (names, rows)


def grouped_places(at, rows, keys):
    """Return for each group the rows that the scopes of the list stand at."""
    if keys is None:
        # No column has a value in a group of all rows, so no row needs to stand for it.
        return [at + ((), rows)]
    groups = {}
    for row in rows:
        key = row_key([value(at + (row,)) for value in keys])
        groups.setdefault(key, []).append(row)
    return [at + (group[0], group) for group in groups.values()]


# sources: their columns as pairs of source and name, and a function that makes their rows


def _from(source, scopes, given):
    if source is None:
        return ([], lambda at: [()])
    if source[0] == "join":
        return _join(source, scopes, given)
    if source[0] == "subquery":
        _, query, alias = source
        names, rows = _query(query, scopes, given)
        return ([(alias, name) for name in names], rows)
    _, name, alias = source
    table = given.sources[name]
    known = name if alias is None else alias
    return ([(known, column) for column in table.columns], lambda at: list(table.rows))


def _join(source, scopes, given):
    _, left, right, condition, outer = source
    columns, left_rows = _from(left, scopes, given)
    more_columns, right_rows = _from(right, scopes, given)
    both = columns + more_columns
    holds = prepared(condition, scopes + (both,), given)
    missing = tuple([None for _ in more_columns])

    def rows(at):
        others = right_rows(at)
        found = []
        for row in left_rows(at):
            pairs = [row + other for other in others]
            matches = [pair for pair in pairs if holds(at + (pair,)) is True]
            if outer and len(matches) == 0:
                matches = [row + missing]
            found.extend(matches)
        return found

    return (both, rows)


# expressions: a function that works out their value


def prepared(expression, scopes, given):
    """Return a function that returns the value of the expression, given the rows that the scopes stand at."""
    preparing = PREPARING[expression[0]]
    return preparing(expression, scopes, given)


def _literal(expression, scopes, given):
    value = expression[1]
    return lambda at: value


def _parameter(expression, scopes, given):
    value = given.parameters[expression[1] - 1]
    return lambda at: value


def _column(expression, scopes, given):
    level, places = find_columns(scopes, expression[1], expression[2])
    place = places[0]
    return lambda at: at[level][place]


def _not(expression, scopes, given):
    operand = prepared(expression[1], scopes, given)
    return lambda at: negation(operand(at))


def _negate(expression, scopes, given):
    operand = prepared(expression[1], scopes, given)
    return lambda at: arithmetic("-", 0, operand(at))


def _binary(expression, scopes, given):
    _, operator, first, second = expression
    left = prepared(first, scopes, given)
    right = prepared(second, scopes, given)
    if operator == "and":
        return lambda at: conjunction(left(at), right(at))
    if operator == "or":
        return lambda at: disjunction(left(at), right(at))
    if operator in COMPARISONS:
        return lambda at: compare(operator, left(at), right(at))
    return lambda at: arithmetic(operator, left(at), right(at))


def _negated_if(negated, value):
    return negation(value) if negated else value


def _is_null(expression, scopes, given):
    _, first, negated = expression
    operand = prepared(first, scopes, given)
    return lambda at: (operand(at) is None) != negated


def _in_list(expression, scopes, given):
    _, first, members, negated = expression
    operand = prepared(first, scopes, given)
    others = [prepared(member, scopes, given) for member in members]
    return lambda at: _negated_if(negated, _is_listed(operand(at), [other(at) for other in others]))


def _is_listed(value, others):
    found = False
    for other in others:
        found = disjunction(found, compare("=", value, other))
    return found


def _in_query(expression, scopes, given):
    _, first, query, negated = expression
    operand = prepared(first, scopes, given)
    _, rows = _query(query, scopes, given)
    return lambda at: _negated_if(negated, _is_among(operand(at), [row[0] for row in rows(at)]))


def _is_among(value, others):
    """Tell whether the value is among those of a query: True, False, or None if that is not known."""
    if len(others) == 0:
        return False
    if value is None:
        return None
    if any([same(value, other) for other in others]):
        return True
    return None if None in others else False


def _exists(expression, scopes, given):
    _, rows = _query(expression[1], scopes, given)
    return lambda at: len(rows(at)) > 0


def _scalar(expression, scopes, given):
    _, rows = _query(expression[1], scopes, given)
    return lambda at: rows(at)[0][0]


def _case(expression, scopes, given):
    _, condition, first, second = expression
    holds = prepared(condition, scopes, given)
    left = prepared(first, scopes, given)
    right = prepared(second, scopes, given)
    return lambda at: left(at) if holds(at) is True else right(at)


def _count_all(expression, scopes, given):
    return lambda at: len(at[-1])


def _aggregate(expression, scopes, given):
    _, function, operand = expression
    # The operand is worked out for each row of the group, in the scope of the select.
    value = prepared(operand, scopes[:-1], given)
    return lambda at: _total(function, [value(at[:-2] + (row,)) for row in at[-1]])


def _total(function, values):
    """Return the value of an aggregate over the values of a group."""
    told = [value for value in values if value is not None]
    if function == "count":
        return len(told)
    if len(told) == 0:
        return None
    if function == "sum":
        return bounded(sum(told))
    return min(told, key=value_key) if function == "min" else max(told, key=value_key)


PREPARING = {
    "literal": _literal, "parameter": _parameter, "column": _column, "not": _not, "negate": _negate,
    "binary": _binary, "is_null": _is_null, "in_list": _in_list, "in_query": _in_query, "exists": _exists,
    "scalar": _scalar, "case": _case, "count_all": _count_all, "aggregate": _aggregate,
}
