"""The rules that turn a plan into another one with the same rows, and papers of such steps."""

from kithwhole.alike import alike
from kithwhole.cells import is_integer_value
from kithwhole.errors import NoPlan
from kithwhole.plans import width
from kithwhole.steps import (
    PAIRING, all_columns, below, column_at, filled, moved, place_of, used_places, with_below,
)

RULES = (
    "split", "merge", "swap", "cross", "join", "left", "right", "match", "open", "turn", "hang", "unhang", "pick",
    "distinct", "set", "group", "twice", "picks",
)


def applied(plan, step, sources):
    """Return the plan after a step, or None if the step is not allowed."""
    if not _is_step(step):
        return None
    return _applied_at(plan, step[0], step[1], sources)


def _is_step(step):
    """Return True if the step is a pair of a rule and a tuple of integers."""
    if not isinstance(step, tuple) or len(step) != 2:
        return False
    rule, path = step
    if rule not in RULES or not isinstance(path, tuple):
        return False
    return all([is_integer_value(index) for index in path])


def _applied_at(plan, rule, path, sources):
    if len(path) == 0:
        return _turned(plan, rule, sources)
    plans = below(plan)
    index = path[0]
    if index not in range(len(plans)):
        return None
    made = _applied_at(plans[index], rule, path[1:], sources)
    if made is None:
        return None
    return with_below(plan, plans[:index] + (made,) + plans[index + 1:])


def _turned(plan, rule, sources):
    """Return what the rule makes of the plan, or None if it does not apply to it."""
    turning = TURNS[rule]
    return turning(plan, sources)


def all_steps(plan, sources):
    """Return the list of the allowed steps."""
    steps = []
    # The plan that comes next stands last.
    queue = [((), plan)]
    while queue:
        path, each = queue.pop()
        for rule in RULES:
            if _turned(each, rule, sources) is not None:
                steps.append((rule, path))
        deeper = [(path + (index,), lower) for index, lower in enumerate(below(each))]
        queue.extend(deeper[::-1])
    return steps


def follow(plan, paper, sources):
    """Return the plan to which the steps of a paper lead."""
    for step in paper:
        plan = applied(plan, step, sources)
        if plan is None:
            raise NoPlan("a step of the paper is not allowed")
    return plan


def judge(plan, paper, last, sources):
    """Return True if all steps of the paper are allowed and lead from the plan to the last one."""
    try:
        return alike(follow(plan, paper, sources), last)
    except NoPlan:
        return False


# what the rules make, or None where they do not apply


def _is_keep_of(plan, words):
    return plan[0] == "keep" and plan[2][0] in words


def _split(plan, sources):
    if plan[0] != "keep" or plan[1][:2] != ("binary", "and"):
        return None
    _, (_, _, first, second), lower = plan
    return ("keep", first, ("keep", second, lower))


def _merge(plan, sources):
    if not _is_keep_of(plan, ("keep",)):
        return None
    _, first, (_, second, lower) = plan
    return ("keep", ("binary", "and", first, second), lower)


def _swap(plan, sources):
    if not _is_keep_of(plan, ("keep",)):
        return None
    _, first, (_, second, lower) = plan
    return ("keep", second, ("keep", first, lower))


def _cross(plan, sources):
    if plan[0] != "join":
        return None
    _, condition, left, right = plan
    return ("keep", condition, ("cross", left, right))


def _join(plan, sources):
    if not _is_keep_of(plan, ("cross",)):
        return None
    _, condition, (_, left, right) = plan
    return ("join", condition, left, right)


def _left(plan, sources):
    if not _is_keep_of(plan, PAIRING):
        return None
    _, condition, step = plan
    left, right = below(step)
    many = width(left, sources)
    if not all([place < many for place in used_places(condition)]):
        return None
    return with_below(step, (("keep", condition, left), right))


def _right(plan, sources):
    # Of an outer step a row of the left plan would come back with None.
    if not _is_keep_of(plan, ("cross", "join", "match")):
        return None
    _, condition, step = plan
    left, right = below(step)
    many = width(left, sources)
    if not all([place >= many for place in used_places(condition)]):
        return None
    return with_below(step, (left, ("keep", moved(condition, -many), right)))


def _match(plan, sources):
    if not _is_keep_of(plan, ("cross", "match")):
        return None
    _, condition, step = plan
    left, right = below(step)
    if condition[:2] != ("binary", "=") or condition[2][0] != "column" or condition[3][0] != "column":
        return None
    first, second = sorted([place_of(condition[2]), place_of(condition[3])])
    if not first < width(left, sources) <= second:
        return None
    pairs = step[1] if step[0] == "match" else ()
    return ("match", pairs + ((first, second),), left, right)


def _open(plan, sources):
    if plan[0] != "match":
        return None
    _, pairs, left, right = plan
    first, second = pairs[-1]
    step = ("match", pairs[:-1], left, right) if len(pairs) > 1 else ("cross", left, right)
    return ("keep", ("binary", "=", column_at(first), column_at(second)), step)


def _turn(plan, sources):
    if plan[0] not in ("cross", "match"):
        return None
    left, right = below(plan)
    many, more = width(left, sources), width(right, sources)
    step = ("cross", right, left)
    if plan[0] == "match":
        step = ("match", tuple([(second - many, first + more) for first, second in plan[1]]), right, left)
    columns = all_columns(many + more)
    return ("pick", columns[more:] + columns[:more], step)


def _hang(plan, sources):
    if plan[0] != "cross" or plan[1][0] != "cross":
        return None
    _, (_, first, second), third = plan
    return ("cross", first, ("cross", second, third))


def _unhang(plan, sources):
    if plan[0] != "cross" or plan[2][0] != "cross":
        return None
    _, first, (_, second, third) = plan
    return ("cross", ("cross", first, second), third)


def _pick(plan, sources):
    if not _is_keep_of(plan, ("pick",)):
        return None
    _, condition, (_, items, lower) = plan
    return ("pick", items, ("keep", filled(condition, items), lower))


def _distinct(plan, sources):
    if not _is_keep_of(plan, ("distinct",)):
        return None
    _, condition, (_, lower) = plan
    return ("distinct", ("keep", condition, lower))


def _set(plan, sources):
    if not _is_keep_of(plan, ("all", "except", "intersect")):
        return None
    _, condition, (word, first, second) = plan
    if word == "all":
        second = ("keep", condition, second)
    return (word, ("keep", condition, first), second)


def _group(plan, sources):
    if not _is_keep_of(plan, ("group",)):
        return None
    _, condition, (_, places, items, having, lower) = plan
    used = [items[place] for place in used_places(condition)]
    if places is None or not all([item[0] == "column" and place_of(item) in places for item in used]):
        return None
    return ("group", places, items, having, ("keep", filled(condition, items), lower))


def _twice(plan, sources):
    if plan[0] != "distinct" or plan[1][0] not in ("distinct", "except", "intersect"):
        return None
    return plan[1]


def _picks(plan, sources):
    if plan[0] != "pick" or plan[2][0] != "pick":
        return None
    _, items, (_, lower_items, lower) = plan
    return ("pick", tuple([filled(item, lower_items) for item in items]), lower)


TURNS = {
    "split": _split, "merge": _merge, "swap": _swap, "cross": _cross, "join": _join, "left": _left, "right": _right,
    "match": _match, "open": _open, "turn": _turn, "hang": _hang, "unhang": _unhang, "pick": _pick,
    "distinct": _distinct, "set": _set, "group": _group, "twice": _twice, "picks": _picks,
}
