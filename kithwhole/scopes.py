"""What a select is to the names in it: columns that are found, names of columns, and grouping.

A scope is the list of the columns of one select, or of the two sides of a join. A column begins with
the name by which its source is known and its own name. The innermost scope stands last.
"""

AGGREGATES = ("count_all", "aggregate")
# The expressions that contain a query.
QUERYING = ("in_query", "exists", "scalar")


class Given:
    """The sources and the parameters of a question."""

    def __init__(self, sources, parameters):
        self.sources = sources
        self.parameters = parameters


def find_columns(scopes, source, name):
    """Return the index of the innermost scope with such a column and their places there, or None."""
    for level in reversed(range(len(scopes))):
        places = _places(scopes[level], source, name)
        if len(places) > 0:
            return (level, places)
    return None


def _places(columns, source, name):
    named = [place for place, column in enumerate(columns) if column[1] == name]
    return [place for place in named if source is None or columns[place][0] == source]


def item_name(expression, name):
    """Return the name of the column that an expression of a list makes; "" if it has none."""
    if name is not None:
        return name
    return expression[2] if expression[0] == "column" else ""


def operands(expression):
    """Return the expressions directly in an expression, without those in a query in it."""
    kind = expression[0]
    if kind in ("not", "negate", "is_null", "in_query"):
        return (expression[1],)
    if kind == "binary":
        return expression[2:]
    if kind == "in_list":
        return (expression[1],) + expression[2]
    if kind == "case":
        return expression[1:]
    if kind == "aggregate":
        return (expression[2],)
    return ()


def has_aggregate(expression):
    """Return True if an aggregate in the expression belongs to the select of the expression."""
    return any([each[0] in AGGREGATES for each in all_in(expression)])


def has_query(expression):
    """Return True if the expression contains a query."""
    return any([each[0] in QUERYING for each in all_in(expression)])


def all_in(expression):
    """Return the expression and all expressions in it, without those in a query in it."""
    found = []
    queue = [expression]
    while queue:
        each = queue.pop()
        found.append(each)
        queue.extend(operands(each))
    return found


def lists_aggregate(select):
    """Return True if the list of a select has an aggregate that belongs to it."""
    items = select[2]
    return items is not None and any([has_aggregate(expression) for expression, _ in items])


def is_grouping(select):
    """Return True if the select groups its rows."""
    return select[5] is not None or select[6] is not None or lists_aggregate(select)
