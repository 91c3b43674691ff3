"""The parts of plans: the plans below a step, and the columns in its expressions."""

from kithwhole.errors import NoPlan
from kithwhole.scopes import QUERYING, all_in

# How many items of each plan stand ahead of the plans below it.
AHEAD = {
    "scan": 2, "one": 1, "cross": 1, "join": 2, "match": 2, "outer": 2, "keep": 2, "pick": 2, "distinct": 1, "group": 4,
    "all": 1, "except": 1, "intersect": 1,
}
# The steps whose columns are those of the left plan and then those of the right one.
PAIRING = ("cross", "join", "match", "outer")


def below(plan):
    """Return the tuple of the plans directly below a plan."""
    return plan[AHEAD[plan[0]]:]


def with_below(plan, plans):
    """Return the plan with other plans directly below it."""
    return plan[:AHEAD[plan[0]]] + plans


def column_at(place):
    """Return the expression for the column with this index."""
    return ("column", None, str(place))


def place_of(column):
    """Return the index of the column that an expression of a plan names."""
    return int(column[2])


def all_columns(many):
    """Return the expressions for the first columns, this many."""
    return tuple([column_at(place) for place in range(many)])


def used_places(expression):
    """Return the indexes of the columns that an expression uses."""
    return [place_of(each) for each in all_in(expression) if each[0] == "column"]


def replaced(expression, new):
    """Return the expression with each of its columns replaced by what `new` makes of that column."""
    kind = expression[0]
    if kind in QUERYING:
        raise NoPlan("there is no plan for an expression that contains a query")
    if kind == "column":
        return new(expression)
    if kind in ("not", "negate"):
        return (kind, replaced(expression[1], new))
    if kind == "is_null":
        return (kind, replaced(expression[1], new), expression[2])
    if kind == "aggregate":
        return (kind, expression[1], replaced(expression[2], new))
    if kind == "binary":
        return expression[:2] + _all_replaced(expression[2:], new)
    if kind == "case":
        return (kind,) + _all_replaced(expression[1:], new)
    if kind == "in_list":
        return (kind, replaced(expression[1], new), _all_replaced(expression[2], new), expression[3])
    return expression


def _all_replaced(expressions, new):
    return tuple([replaced(expression, new) for expression in expressions])


def moved(expression, by):
    """Return the expression with the index of each of its columns greater by a number."""
    return replaced(expression, lambda column: column_at(place_of(column) + by))


def filled(expression, items):
    """Return the expression with each of its columns replaced by the item with its index."""
    return replaced(expression, lambda column: items[place_of(column)])
