"""The tokens of a question."""

from kithwhole.errors import RefusedText

KEYWORDS = (
    "select", "distinct", "from", "where", "group", "by", "having", "order", "limit", "as", "join", "left", "on",
    "union", "all", "except", "intersect", "and", "or", "not", "is", "null", "true", "false", "in", "exists", "case",
    "when", "then", "else", "end", "count", "sum", "min", "max", "mod", "desc",
)
BLANKS = " \n"
LETTERS = "abcdefghijklmnopqrstuvwxyz"
DIGITS = "0123456789"
WORD_CHARACTERS = "abcdefghijklmnopqrstuvwxyz0123456789_"
# The longer signs stand first, since the longer one of two is read.
SIGNS = ("<>", "<=", ">=", "||", "(", ")", ",", ".", "+", "-", "*", "/", "=", "<", ">")
MOST_DIGITS = 30
MOST_PARAMETER_DIGITS = 2
LONGEST_TEXT = 2000


def tokenize(text):
    """Return the list of the triples of kind, value and position of the tokens."""
    tokens = []
    at = 0
    while at < len(text):
        if text[at] in BLANKS:
            at += 1
        else:
            kind, value, end = _token_at(text, at)
            tokens.append((kind, value, at))
            at = end
    return tokens


def write_token(token):
    """Return a string whose only token is this one."""
    kind, value, _ = token
    if kind == "text":
        return "'" + value.replace("'", "''") + "'"
    if kind == "parameter":
        return "$" + str(value)
    return str(value)


def _token_at(text, at):
    """Return the kind and the value of the token that starts here, and where it ends."""
    first = text[at]
    if first in LETTERS:
        end = _end_of(text, at, WORD_CHARACTERS)
        word = text[at:end]
        return ("keyword" if word in KEYWORDS else "name", word, end)
    if first in DIGITS:
        return _integer_at(text, at)
    if first == "'":
        return _text_at(text, at)
    if first == "$":
        return _parameter_at(text, at)
    for sign in SIGNS:
        if text.startswith(sign, at):
            return ("sign", sign, at + len(sign))
    raise RefusedText(at)


def _end_of(text, at, characters):
    """Return the first place from here on where none of the characters stands."""
    while at < len(text) and text[at] in characters:
        at += 1
    return at


def _integer_at(text, at):
    end = _end_of(text, at, DIGITS)
    if end - at > MOST_DIGITS:
        raise RefusedText(at)
    return ("integer", int(text[at:end]), end)


def _parameter_at(text, at):
    end = _end_of(text, at + 1, DIGITS)
    if not 1 <= end - at - 1 <= MOST_PARAMETER_DIGITS:
        raise RefusedText(at)
    return ("parameter", int(text[at + 1:end]), end)


def _text_at(text, at):
    quote = text.find("'", at + 1)
    # A quote that another one follows stands for one quote and does not end the text.
    while quote != -1 and text.startswith("'", quote + 1):
        quote = text.find("'", quote + 2)
    if quote == -1:
        raise RefusedText(at)
    value = text[at + 1:quote].replace("''", "'")
    if len(value) > LONGEST_TEXT:
        raise RefusedText(at)
    return ("text", value, quote + 1)
