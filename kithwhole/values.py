"""The order of all values, arithmetic, comparisons, and the operators over True, False and None."""

BOUND = 10 ** 40
LONGEST_TEXT = 2000
COMPARISONS = ("=", "<>", "<", "<=", ">", ">=")


def value_key(value):
    """Return a tuple of integers and strings that is ordered as the value is among all values."""
    if value is None:
        return (0, 0)
    # Python takes booleans as integers; here each boolean stands before all integers.
    if isinstance(value, bool):
        return (1, int(value))
    if isinstance(value, int):
        return (2, value)
    return (3, value)


def row_key(row):
    """Return a tuple of integers and strings that is ordered as the row is among rows of its length."""
    key = []
    for value in row:
        key.extend(value_key(value))
    return tuple(key)


def same(first, second):
    """Return True if neither of the two values stands before the other."""
    return value_key(first) == value_key(second)


def distinct_rows(rows):
    """Return a new list of the first ones of rows that are the same."""
    firsts = {}
    for row in rows:
        firsts.setdefault(row_key(row), row)
    return list(firsts.values())


def bounded(number):
    """Return the number, or None if its absolute value is too great for a result."""
    return number if abs(number) < BOUND else None


def arithmetic(operator, first, second):
    """Return the result of + - * / mod or ||."""
    if first is None or second is None:
        return None
    if operator == "||":
        joined = first + second
        return joined if len(joined) <= LONGEST_TEXT else None
    if operator == "+":
        return bounded(first + second)
    if operator == "-":
        return bounded(first - second)
    if operator == "*":
        return bounded(first * second)
    if second == 0:
        return None
    quotient = _quotient(first, second)
    if operator == "/":
        return bounded(quotient)
    return bounded(first - quotient * second)


def _quotient(first, second):
    """Divide and round toward zero, while // rounds down."""
    quotient = abs(first) // abs(second)
    return quotient if (first < 0) == (second < 0) else -quotient


def compare(operator, first, second):
    """Return the result of a comparison: True, False, or None if an operand is None."""
    if first is None or second is None:
        return None
    left = value_key(first)
    right = value_key(second)
    if operator == "=":
        return left == right
    if operator == "<>":
        return left != right
    if operator == "<":
        return left < right
    if operator == "<=":
        return left <= right
    if operator == ">":
        return left > right
    return left >= right


def negation(value):
    """Return `not` of True, False or None."""
    return None if value is None else not value


def conjunction(first, second):
    """Return `and` of True, False or None."""
    if first is False or second is False:
        return False
    return None if first is None or second is None else True


def disjunction(first, second):
    """Return `or` of True, False or None."""
    if first is True or second is True:
        return True
    return None if first is None or second is None else False
