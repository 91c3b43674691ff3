"""The grammar of points 54 to 58 as rules, and where a question is refused by them (point 59).

The rules are followed by the method of Earley, which takes each token just as long as some question
begins so. The depths of tokens are worked out apart from the rules, from the tokens alone.
"""

# Names of rules begin with @. A query in the place of an expression begins with `select` (point 55).
RULES = {
    "@question": ["@query @order @limit"],
    "@order": ["", "order by @keys"],
    "@keys": ["@key", "@keys , @key"],
    "@key": ["NAME @down", "INTEGER @down"],
    "@down": ["", "desc"],
    "@limit": ["", "limit INTEGER"],
    "@query": ["@part", "@query @operator @part"],
    "@begun": ["@select", "@begun @operator @part"],
    "@operator": ["union", "union all", "except", "intersect"],
    "@part": ["@select", "( @query )"],
    "@select": ["select @distinct @list @from @where @group @having"],
    "@distinct": ["", "distinct"],
    "@list": ["*", "@items"],
    "@items": ["@item", "@items , @item"],
    "@item": ["@1", "@1 as NAME"],
    "@from": ["", "from @joins"],
    "@joins": ["@source", "@joins join @source on @1", "@joins left join @source on @1"],
    "@source": ["NAME", "NAME NAME", "( @query ) NAME"],
    "@where": ["", "where @1"],
    "@group": ["", "group by @some"],
    "@having": ["", "having @1"],
    "@some": ["@1", "@some , @1"],
    "@1": ["@2", "@1 or @2"],
    "@2": ["@3", "@2 and @3"],
    "@3": ["@4", "not @3"],
    "@4": ["@5", "@4 = @5", "@4 <> @5", "@4 < @5", "@4 <= @5", "@4 > @5", "@4 >= @5", "@4 is null", "@4 is not null",
           "@4 in ( @some )", "@4 not in ( @some )", "@4 in ( @begun )", "@4 not in ( @begun )"],
    "@5": ["@6", "@5 + @6", "@5 - @6", "@5 || @6"],
    "@6": ["@7", "@6 * @7", "@6 / @7", "@6 mod @7"],
    "@7": ["@8", "- @7"],
    "@8": ["INTEGER", "TEXT", "null", "true", "false", "PARAMETER", "NAME", "NAME . NAME", "count ( * )",
           "count ( @1 )", "sum ( @1 )", "min ( @1 )", "max ( @1 )", "exists ( @query )",
           "case when @1 then @1 else @1 end", "( @begun )", "( @1 )"],
}
GRAMMAR = {name: [tuple(option.split()) for option in options] for name, options in RULES.items()}
KINDS = {"name": "NAME", "integer": "INTEGER", "text": "TEXT", "parameter": "PARAMETER"}
MOST_TOKENS = 120
MOST_DEPTH = 12


def terminal(token):
    return KINDS.get(token[0], token[1])


class Earley:
    """The states behind each token; a state is (rule, option, place in the option, where it began)."""

    def __init__(self):
        self.sets = []
        self.enter([("@question", option, 0, 0) for option in GRAMMAR["@question"]])

    def enter(self, states):
        here = len(self.sets)
        current = {}
        self.sets.append(current)
        queue = list(states)
        while queue:
            state = queue.pop()
            if state in current:
                continue
            current[state] = True
            name, option, place, start = state
            if place == len(option):
                queue += [(each[0], each[1], each[2] + 1, each[3]) for each in list(self.sets[start])
                          if each[1][each[2]:each[2] + 1] == (name,)]
            elif option[place].startswith("@"):
                queue += [(option[place], each, 0, here) for each in GRAMMAR[option[place]]]
                if () in GRAMMAR[option[place]]:
                    queue.append((name, option, place + 1, start))

    def take(self, token):
        """Take a token and return True if it can continue a question."""
        moved = [(name, option, place + 1, start) for name, option, place, start in self.sets[-1]
                 if option[place:place + 1] == (terminal(token),)]
        if moved:
            self.enter(moved)
        return bool(moved)

    def is_complete(self):
        return any(name == "@question" and place == len(option) for name, option, place, _ in self.sets[-1])


# Behind one of these no operand of `not` goes on.
CLOSING = ("and", "or", ")", ",", "as", "from", "where", "group", "having", "order", "limit", "union", "except",
           "intersect", "join", "left", "on", "when", "then", "else", "end")
ENDS = ("null", "true", "false", ")", "end")


class Depths:
    """What is open: parentheses, cases, and prefixes whose operand goes on."""

    def __init__(self):
        self.open = []
        self.ended = False
        self.last = None

    def depth_of(self, token):
        """Return the depth of the next token, and whether it opens something."""
        word = token[1] if token[0] in ("keyword", "sign") else None
        if self.ended and word != ".":
            while self.open and self.open[-1] == "-":
                self.open.pop()
            while word in CLOSING and self.open and self.open[-1] == "not":
                self.open.pop()
        prefix = word in ("not", "-") and not self.ended and self.last != "is"
        depth, opens = len(self.open), prefix or word in ("(", "case")
        if opens:
            self.open.append(word)
        if word in (")", "end") and self.open:
            self.open.pop()
        self.ended = token[0] in KINDS or word in ENDS or (word == "*" and self.last in ("(", "select", "distinct"))
        self.last = word
        return depth, opens


def refused_at(tokens, length):
    """Return the position at which the tokens of a text of this length are refused, or None."""
    states, depths = Earley(), Depths()
    for index, token in enumerate(tokens):
        if not states.take(token) or index == MOST_TOKENS:
            return token[2]
        depth, opens = depths.depth_of(token)
        if opens and depth >= MOST_DEPTH:
            return token[2]
    return None if states.is_complete() else length


LEAVES = {"NAME": ["a", "b", "t", "x1", "selects"], "INTEGER": ["0", "7", "012"],
          "TEXT": ["''", "'x'", "'is'", "'('"], "PARAMETER": ["$1", "$0"]}


def sentence(chance, budget, plain):
    """A random question of the grammar, as a list of words.

    The first option of each rule leads to an end, so the question ends when the budget is used up.
    """
    words, stack = [], ["@question"]
    while stack:
        word = stack.pop()
        if word.startswith("@"):
            budget -= 1
            options = GRAMMAR[word]
            option = options[0] if budget < 0 or chance.random() < plain else chance.choice(options)
            stack += reversed(option)
        else:
            words.append(chance.choice(LEAVES.get(word, [word])))
    return words
