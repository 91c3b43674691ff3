"""Trees of questions in few words, and a slow way to write them with all parentheses."""


def lit(value):
    return ("literal", value)


def col(name, source=None):
    return ("column", source, name)


def op(operator, first, second):
    return ("binary", operator, first, second)


def select(*items, source=None, where=None, group=None, having=None, distinct=False):
    """A select; items are expressions, or pairs of an expression and a name; none stands for `*`."""
    listed = tuple(item if isinstance(item[0], tuple) else (item, None) for item in items) or None
    return ("select", distinct, listed, source, where, group, having)


def question(query, *order, limit=None):
    return ("question", query, order, limit)


def table(name, alias=None):
    return ("table", name, alias)


A, B, C, D = col("a"), col("b"), col("c"), col("d")


def full(expression):
    """The text of an expression in which every operand stands in parentheses."""
    kind, rest = expression[0], expression[1:]
    if kind == "literal":
        return {None: "null"}.get(rest[0]) or (str(rest[0]).lower() if isinstance(rest[0], (bool, int)) else
                                               "'" + rest[0].replace("'", "''") + "'")
    if kind == "parameter":
        return "$" + str(rest[0])
    if kind == "column":
        return rest[1] if rest[0] is None else rest[0] + "." + rest[1]
    if kind == "count_all":
        return "count(*)"
    if kind == "aggregate":
        return f"{rest[0]}({full(rest[1])})"
    if kind in ("exists", "scalar"):
        return ("exists " if kind == "exists" else "") + "(" + full_query(rest[0]) + ")"
    if kind == "case":
        return "case when {} then {} else {} end".format(*map(closed, rest))
    if kind in ("not", "negate"):
        return ("not " if kind == "not" else "- ") + closed(rest[0])
    if kind == "binary":
        return f"{closed(rest[1])} {rest[0]} {closed(rest[2])}"
    if kind == "is_null":
        return closed(rest[0]) + (" is not null" if rest[1] else " is null")
    word = " not in " if rest[2] else " in "
    inside = ", ".join(map(closed, rest[1])) if kind == "in_list" else full_query(rest[1])
    return closed(rest[0]) + word + "(" + inside + ")"


def closed(expression):
    """The text in parentheses, unless the expression is a query, which has its own ones."""
    return full(expression) if expression[0] in ("scalar", "literal", "column") else "(" + full(expression) + ")"


def full_source(source):
    if source[0] == "table":
        return source[1] + (" " + source[2] if source[2] else "")
    if source[0] == "subquery":
        return "(" + full_query(source[1]) + ") " + source[2]
    _, left, right, condition, outer = source
    return f"{full_source(left)} {'left ' if outer else ''}join {full_source(right)} on {closed(condition)}"


def full_query(query):
    if query[0] == "set":
        second = full_query(query[3])
        return f"{full_query(query[2])} {query[1]} " + (f"({second})" if query[3][0] == "set" else second)
    _, distinct, items, source, where, group, having = query
    text = "select distinct " if distinct else "select "
    text += "*" if items is None else ", ".join(closed(e) + (" as " + name if name else "") for e, name in items)
    text += "" if source is None else " from " + full_source(source)
    text += "" if where is None else " where " + closed(where)
    text += "" if group is None else " group by " + ", ".join(map(closed, group))
    return text + ("" if having is None else " having " + closed(having))


def full_question(tree):
    _, query, order, limit = tree
    text = full_query(query)
    if order:
        text += " order by " + ", ".join(str(key) + (" desc" if down else "") for key, down in order)
    return text + ("" if limit is None else f" limit {limit}")
