"""The tree of a question."""

from kithwhole.errors import RefusedText
from kithwhole.tokens import tokenize
from kithwhole.values import COMPARISONS

MOST_TOKENS = 120
MOST_DEPTH = 12
SUMS = ("+", "-", "||")
PRODUCTS = ("*", "/", "mod")
SET_OPERATORS = ("union", "except", "intersect")
AGGREGATES = ("sum", "min", "max")
CONSTANTS = {"null": None, "true": True, "false": False}


def parse(text):
    """Return the tree of a question."""
    tokens = tokenize(text)
    if len(tokens) > MOST_TOKENS:
        tokens = tokens[:MOST_TOKENS] + [("refused", None, tokens[MOST_TOKENS][2])]
    tokens.append(("end", None, len(text)))
    return Reading(tokens).question()


class Reading:
    """The tokens of a question, read from the front. Whatever cannot stand next is refused."""

    def __init__(self, tokens):
        self._tokens = tokens
        self._at = 0
        self._depth = 0

    def _refuse(self):
        raise RefusedText(self._tokens[self._at][2])

    def _sees(self, words, ahead=0):
        """Return True if the next token, or one further ahead, is one of the keywords and signs."""
        if self._at + ahead >= len(self._tokens):
            return False
        kind, value, _ = self._tokens[self._at + ahead]
        return kind in ("keyword", "sign") and value in words

    def _sees_kind(self, kind):
        return self._tokens[self._at][0] == kind

    def _value(self):
        """Take the next token and return its value."""
        self._at += 1
        return self._tokens[self._at - 1][1]

    def _skips(self, word):
        """Take the next token if it is this keyword or sign, and tell whether it was."""
        if not self._sees((word,)):
            return False
        self._at += 1
        return True

    def _take(self, word):
        if not self._skips(word):
            self._refuse()

    def _take_kind(self, kind):
        if not self._sees_kind(kind):
            self._refuse()
        return self._value()

    def _enter(self, word):
        """Take what makes all that follows deeper, until it is left."""
        if self._depth == MOST_DEPTH:
            self._refuse()
        self._take(word)
        self._depth += 1

    def _leave(self, word):
        self._take(word)
        self._depth -= 1

    # questions and queries

    def question(self):
        """Return the tree of a question that takes all tokens."""
        query = self._query()
        order = ()
        if self._skips("order"):
            self._take("by")
            order = self._keys()
        limit = None
        if self._skips("limit"):
            limit = self._take_kind("integer")
        if not self._sees_kind("end"):
            self._refuse()
        return ("question", query, order, limit)

    def _keys(self):
        keys = [self._key()]
        while self._skips(","):
            keys.append(self._key())
        return tuple(keys)

    def _key(self):
        key = self._value() if self._sees_kind("integer") else self._take_kind("name")
        return (key, self._skips("desc"))

    def _query(self):
        query = self._part()
        while self._sees(SET_OPERATORS):
            operator = self._value()
            if operator == "union" and self._skips("all"):
                operator = "union all"
            query = ("set", operator, query, self._part())
        return query

    def _part(self):
        return self._query_in_parentheses() if self._sees(("(",)) else self._select()

    def _query_in_parentheses(self):
        self._enter("(")
        query = self._query()
        self._leave(")")
        return query

    def _select(self):
        self._take("select")
        distinct = self._skips("distinct")
        items = None if self._skips("*") else self._items()
        source = self._joins() if self._skips("from") else None
        where = self._expression() if self._skips("where") else None
        group = None
        if self._skips("group"):
            self._take("by")
            group = self._expressions()
        having = self._expression() if self._skips("having") else None
        return ("select", distinct, items, source, where, group, having)

    def _items(self):
        items = [self._item()]
        while self._skips(","):
            items.append(self._item())
        return tuple(items)

    def _item(self):
        expression = self._expression()
        return (expression, self._take_kind("name") if self._skips("as") else None)

    def _joins(self):
        source = self._source()
        while self._sees(("join", "left")):
            outer = self._skips("left")
            self._take("join")
            right = self._source()
            self._take("on")
            source = ("join", source, right, self._expression(), outer)
        return source

    def _source(self):
        if self._sees(("(",)):
            query = self._query_in_parentheses()
            return ("subquery", query, self._take_kind("name"))
        name = self._take_kind("name")
        return ("table", name, self._value() if self._sees_kind("name") else None)

    # expressions, from the operators that bind loosest to those that bind tightest

    def _expressions(self):
        found = [self._expression()]
        while self._skips(","):
            found.append(self._expression())
        return tuple(found)

    def _expression(self):
        first = self._conjunction()
        while self._skips("or"):
            first = ("binary", "or", first, self._conjunction())
        return first

    def _conjunction(self):
        first = self._negation()
        while self._skips("and"):
            first = ("binary", "and", first, self._negation())
        return first

    def _negation(self):
        if not self._sees(("not",)):
            return self._comparison()
        self._enter("not")
        operand = self._negation()
        self._depth -= 1
        return ("not", operand)

    def _comparison(self):
        first = self._sum()
        while True:
            if self._sees(COMPARISONS):
                operator = self._value()
                first = ("binary", operator, first, self._sum())
            elif self._skips("is"):
                negated = self._skips("not")
                self._take("null")
                first = ("is_null", first, negated)
            elif self._sees(("in", "not")):
                negated = self._skips("not")
                self._take("in")
                first = self._membership(first, negated)
            else:
                return first

    def _membership(self, first, negated):
        if self._sees(("select",), 1):
            return ("in_query", first, self._query_in_parentheses(), negated)
        self._enter("(")
        members = self._expressions()
        self._leave(")")
        return ("in_list", first, members, negated)

    def _sum(self):
        first = self._product()
        while self._sees(SUMS):
            operator = self._value()
            first = ("binary", operator, first, self._product())
        return first

    def _product(self):
        first = self._negative()
        while self._sees(PRODUCTS):
            operator = self._value()
            first = ("binary", operator, first, self._negative())
        return first

    def _negative(self):
        if not self._sees(("-",)):
            return self._primary()
        self._enter("-")
        operand = self._negative()
        self._depth -= 1
        return ("negate", operand)

    def _primary(self):
        if self._sees_kind("name"):
            return self._column()
        if self._sees_kind("integer") or self._sees_kind("text"):
            return ("literal", self._value())
        if self._sees_kind("parameter"):
            return ("parameter", self._value())
        if self._sees(("null", "true", "false")):
            return ("literal", CONSTANTS[self._value()])
        if self._skips("exists"):
            return ("exists", self._query_in_parentheses())
        if self._sees(("case",)):
            return self._case()
        if self._skips("count"):
            return self._count()
        if self._sees(AGGREGATES):
            return ("aggregate", self._value(), self._in_parentheses())
        if self._sees(("select",), 1):
            return ("scalar", self._query_in_parentheses())
        return self._in_parentheses()

    def _column(self):
        name = self._value()
        if self._skips("."):
            return ("column", name, self._take_kind("name"))
        return ("column", None, name)

    def _in_parentheses(self):
        self._enter("(")
        expression = self._expression()
        self._leave(")")
        return expression

    def _case(self):
        self._enter("case")
        self._take("when")
        condition = self._expression()
        self._take("then")
        first = self._expression()
        self._take("else")
        second = self._expression()
        self._leave("end")
        return ("case", condition, first, second)

    def _count(self):
        if not self._sees(("*",), 1):
            return ("aggregate", "count", self._in_parentheses())
        self._enter("(")
        self._take("*")
        self._leave(")")
        return ("count_all",)
