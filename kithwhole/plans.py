"""Plans: by which steps the rows of a query are made, and the rows that the steps make."""

from kithwhole.errors import NoPlan
from kithwhole.meaning import combined, grouped_places, prepared
from kithwhole.scopes import Given, find_columns, is_grouping, item_name
from kithwhole.steps import PAIRING, all_columns, below, column_at, replaced
from kithwhole.values import distinct_rows, value_key

MOST_ROWS = 2000


def plan_of(query, sources):
    """Return the plan of a checked query."""
    return _query(query, sources)[1]


# queries: the names of their columns, and their plan


def _query(query, sources):
    if query[0] == "select":
        return _select(query, sources)
    _, operator, first, second = query
    names, left = _query(first, sources)
    _, right = _query(second, sources)
    if operator == "union all":
        return (names, ("all", left, right))
    if operator == "union":
        return (names, ("distinct", ("all", left, right)))
    return (names, (operator, left, right))


def _select(select, sources):
    _, distinct, items, source, where, group, having = select
    columns, plan = _from(source, sources)
    names = [name for _, name in columns]
    if where is not None:
        plan = ("keep", _placed(where, columns), plan)
    if items is not None:
        names = [item_name(item, name) for item, name in items]
        told = tuple([_placed(item, columns) for item, _ in items])
        if is_grouping(select):
            places = None if group is None else tuple([_place_in(columns, key) for key in group])
            wanted = None if having is None else _placed(having, columns)
            plan = ("group", places, told, wanted, plan)
        else:
            plan = ("pick", told, plan)
    return (names, ("distinct", plan) if distinct else plan)


def _from(source, sources):
    """Return the columns of a source as pairs of source and name, and its plan."""
    if source is None:
        return ([], ("one",))
    if source[0] == "subquery":
        names, plan = _query(source[1], sources)
        return ([(source[2], name) for name in names], plan)
    if source[0] == "table":
        _, name, alias = source
        known = name if alias is None else alias
        return ([(known, column) for column in sources[name].columns], ("scan", name))
    _, left, right, condition, outer = source
    columns, first = _from(left, sources)
    more, second = _from(right, sources)
    word = "outer" if outer else "join"
    return (columns + more, (word, _placed(condition, columns + more), first, second))


def _placed(expression, columns):
    """Return the expression of a query with its columns named by their places."""
    return replaced(expression, lambda column: column_at(_place_in(columns, column)))


def _place_in(columns, column):
    _, places = find_columns([columns], column[1], column[2])
    return places[0]


# the rows of plans


def width(plan, sources):
    """Return the number of columns of a plan."""
    word = plan[0]
    if word == "scan":
        return len(sources[plan[1]].columns)
    if word == "one":
        return 0
    if word == "pick":
        return len(plan[1])
    if word == "group":
        return len(plan[2])
    if word in PAIRING:
        return width(plan[-2], sources) + width(plan[-1], sources)
    return width(below(plan)[0], sources)


def run(plan, sources, parameters):
    """Return the rows of a plan, in the order in which its steps make them."""
    return _made(plan, Given(sources, parameters))[1]


def _made(plan, given):
    """Return the number of columns of a plan, and its rows."""
    parts = []
    for each in below(plan):
        parts.append(_made(each, given))
    making = STEPS[plan[0]]
    rows = making(plan, parts, given)
    return (width(plan, given.sources), _bounded(rows))


def _bounded(rows):
    if len(rows) > MOST_ROWS:
        raise NoPlan("a step makes too many rows")
    return rows


def prepared_over(expression, many, given):
    """Return a function that returns the value of an expression of a plan, given a row of this many columns."""
    value = prepared(expression, (_named(many),), given)
    return lambda row: value((row,))


def _named(many):
    """Return the columns of rows of a plan, as scopes have them."""
    return [column[1:] for column in all_columns(many)]


def _scan(plan, parts, given):
    return list(given.sources[plan[1]].rows)


def _one(plan, parts, given):
    return [()]


def _cross(plan, parts, given):
    (_, first), (_, second) = parts
    # So many rows need not be made to be refused.
    if len(first) * len(second) > MOST_ROWS:
        raise NoPlan("a cross makes too many rows")
    return [row + other for row in first for other in second]


def _join(plan, parts, given):
    (left, first), (right, second) = parts
    holds = prepared_over(plan[1], left + right, given)
    rows = []
    for row in first:
        pairs = [row + other for other in second]
        rows.extend([pair for pair in pairs if holds(pair) is True])
        _bounded(rows)
    return rows


def _match(plan, parts, given):
    (left, first), (_, second) = parts
    found = {}
    for row in second:
        key = _key(row, [place - left for _, place in plan[1]])
        found.setdefault(key, []).append(row)
    rows = []
    for row in first:
        key = _key(row, [place for place, _ in plan[1]])
        if key is not None:
            rows.extend([row + other for other in found.get(key, [])])
            _bounded(rows)
    return rows


def _key(row, places):
    """Return a key of the values at the places that is equal for the same values, or None if one is None."""
    values = [row[place] for place in places]
    if None in values:
        return None
    return tuple([value_key(value) for value in values])


def _outer(plan, parts, given):
    (left, first), (right, second) = parts
    holds = prepared_over(plan[1], left + right, given)
    missing = tuple([None for _ in range(right)])
    rows = []
    for row in first:
        pairs = [row + other for other in second]
        matches = [pair for pair in pairs if holds(pair) is True]
        rows.extend(matches if len(matches) > 0 else [row + missing])
        _bounded(rows)
    return rows


def _keep(plan, parts, given):
    many, rows = parts[0]
    holds = prepared_over(plan[1], many, given)
    return [row for row in rows if holds(row) is True]


def _pick(plan, parts, given):
    many, rows = parts[0]
    values = [prepared_over(item, many, given) for item in plan[1]]
    return [tuple([value(row) for value in values]) for row in rows]


def _distinct(plan, parts, given):
    return distinct_rows(parts[0][1])


def _group(plan, parts, given):
    _, places, items, having, _ = plan
    many, rows = parts[0]
    columns = _named(many)
    keys = None if places is None else [prepared(column_at(place), (columns,), given) for place in places]
    groups = grouped_places((), rows, keys)
    # Aggregates stand in one more scope, as in the list of a select.
    listed = (columns, ())
    if having is not None:
        holds = prepared(having, listed, given)
        groups = [at for at in groups if holds(at) is True]
    values = [prepared(item, listed, given) for item in items]
    return [tuple([value(at) for value in values]) for at in groups]


def _all(plan, parts, given):
    return parts[0][1] + parts[1][1]


def _except(plan, parts, given):
    return combined("except", parts[0][1], parts[1][1])


def _intersect(plan, parts, given):
    return combined("intersect", parts[0][1], parts[1][1])


STEPS = {
    "scan": _scan, "one": _one, "cross": _cross, "join": _join, "match": _match, "outer": _outer, "keep": _keep,
    "pick": _pick, "distinct": _distinct, "group": _group, "all": _all, "except": _except, "intersect": _intersect,
}
