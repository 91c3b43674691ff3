"""The text of a question."""

from kithwhole.tokens import write_token

# The lines of expressions, from those that bind loosest to those that bind tightest.
LOOSEST = 1
NOT = 3
COMPARISON = 4
NEGATIVE = 7
PRIMARY = 8
OPERATOR_LINES = {
    "or": 1, "and": 2, "=": 4, "<>": 4, "<": 4, "<=": 4, ">": 4, ">=": 4, "+": 5, "-": 5, "||": 5, "*": 6, "/": 6,
    "mod": 6,
}
LINES = {"not": 3, "is_null": 4, "in_list": 4, "in_query": 4, "negate": 7}
AGGREGATES = ("count", "sum", "min", "max")


def write_question(tree):
    """Return a text that is read as the tree."""
    _, query, order, limit = tree
    words = _query(query)
    if len(order) > 0:
        words = words + ["order", "by"] + _listed([_key(key, descending) for key, descending in order])
    if limit is not None:
        words = words + ["limit", str(limit)]
    return _joined(words)


def _joined(words):
    """Return the text of the words, with a blank wherever one helps to read it."""
    text = []
    before = "("
    for word in words:
        closes = word in (")", ",", ".") or (word == "(" and before in AGGREGATES)
        if not closes and before not in ("(", "."):
            text.append(" ")
        text.append(word)
        before = word
    return "".join(text)


def _listed(parts):
    """Return the words of the parts with commas between them."""
    words = list(parts[0])
    for part in parts[1:]:
        words = words + [","] + part
    return words


def _in_parentheses(words):
    return ["("] + words + [")"]


def _key(key, descending):
    return [str(key), "desc"] if descending else [str(key)]


def _query(query):
    if query[0] == "select":
        return _select(query)
    _, operator, first, second = query
    # Set operators associate to the left, so only the query behind one needs parentheses.
    right = _select(second) if second[0] == "select" else _in_parentheses(_query(second))
    return _query(first) + operator.split(" ") + right


def _select(select):
    _, distinct, items, source, where, group, having = select
    words = ["select", "distinct"] if distinct else ["select"]
    words = words + (["*"] if items is None else _listed([_item(item, name) for item, name in items]))
    if source is not None:
        words = words + ["from"] + _source(source)
    if where is not None:
        words = words + ["where"] + _words(where, LOOSEST)
    if group is not None:
        words = words + ["group", "by"] + _expressions(group)
    if having is not None:
        words = words + ["having"] + _words(having, LOOSEST)
    return words


def _item(expression, name):
    words = _words(expression, LOOSEST)
    return words if name is None else words + ["as", name]


def _source(source):
    if source[0] == "table":
        _, name, alias = source
        return [name] if alias is None else [name, alias]
    if source[0] == "subquery":
        _, query, alias = source
        return _in_parentheses(_query(query)) + [alias]
    _, left, right, condition, outer = source
    words = ["left", "join"] if outer else ["join"]
    return _source(left) + words + _source(right) + ["on"] + _words(condition, LOOSEST)


def _expressions(expressions):
    return _listed([_words(expression, LOOSEST) for expression in expressions])


def _line(expression):
    """Return the line of the operator that binds loosest in the expression."""
    if expression[0] == "binary":
        return OPERATOR_LINES[expression[1]]
    return LINES.get(expression[0], PRIMARY)


def _words(expression, line):
    """Return the words of an expression where one of this line or a tighter one may stand."""
    writing = WRITING[expression[0]]
    words = writing(expression)
    return words if _line(expression) >= line else _in_parentheses(words)


def _literal(expression):
    value = expression[1]
    if value is None:
        return ["null"]
    if isinstance(value, bool):
        return ["true" if value else "false"]
    if isinstance(value, int):
        return [str(value)]
    return [write_token(("text", value, 0))]


def _parameter(expression):
    return [write_token(("parameter", expression[1], 0))]


def _column(expression):
    _, source, name = expression
    return [name] if source is None else [source, ".", name]


def _not(expression):
    return ["not"] + _words(expression[1], NOT)


def _negate(expression):
    return ["-"] + _words(expression[1], NEGATIVE)


def _binary(expression):
    _, operator, first, second = expression
    line = _line(expression)
    # All operators of one line associate to the left.
    return _words(first, line) + [operator] + _words(second, line + 1)


def _is_null(expression):
    _, operand, negated = expression
    return _words(operand, COMPARISON) + (["is", "not", "null"] if negated else ["is", "null"])


def _in_list(expression):
    _, operand, members, negated = expression
    return _words(operand, COMPARISON) + _in_word(negated) + _in_parentheses(_expressions(members))


def _in_query(expression):
    _, operand, query, negated = expression
    return _words(operand, COMPARISON) + _in_word(negated) + _in_parentheses(_query(query))


def _in_word(negated):
    return ["not", "in"] if negated else ["in"]


def _exists(expression):
    return ["exists"] + _in_parentheses(_query(expression[1]))


def _scalar(expression):
    return _in_parentheses(_query(expression[1]))


def _case(expression):
    _, condition, first, second = expression
    words = ["case", "when"] + _words(condition, LOOSEST) + ["then"] + _words(first, LOOSEST)
    return words + ["else"] + _words(second, LOOSEST) + ["end"]


def _count_all(expression):
    return ["count", "(", "*", ")"]


def _aggregate(expression):
    _, function, operand = expression
    return [function] + _in_parentheses(_words(operand, LOOSEST))


WRITING = {
    "literal": _literal, "parameter": _parameter, "column": _column, "not": _not, "negate": _negate,
    "binary": _binary, "is_null": _is_null, "in_list": _in_list, "in_query": _in_query, "exists": _exists,
    "scalar": _scalar, "case": _case, "count_all": _count_all, "aggregate": _aggregate,
}
