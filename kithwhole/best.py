"""The cheapest plan of crosses of a few scans with conditions, and the table of costs that tells it."""

from kithwhole.alike import alike
from kithwhole.errors import NoPlan
from kithwhole.meaning import prepared
from kithwhole.plans import MOST_ROWS, width
from kithwhole.scopes import Given
from kithwhole.steps import below, column_at, moved, place_of, replaced, used_places

MOST_SCANS = 5


def best(plan, sources, parameters):
    """Return for each group of scans that is told the number of its rows, its cost, and the first part of its way."""
    return _table(Scans(plan, sources, parameters))


def judge_best(plan, sources, parameters, table):
    """Return True if the table is the one that tells the cheapest plan."""
    told = best(plan, sources, parameters)
    if not isinstance(table, dict) or len(table) != len(told):
        return False
    return all([_is_told(told, group) and alike(told[group], table[group]) for group in table])


def _is_told(told, group):
    # A key may be found in a dict and still be of other kinds.
    return group in told and any([alike(group, each) for each in told])


def best_plan(plan, sources, parameters):
    """Return a pick of all columns, in their old order, of the cheapest plan."""
    scans = Scans(plan, sources, parameters)
    group = scans.all_of_them()
    made, places = _planned(scans, _table(scans), group)
    return ("pick", tuple([column_at(places.index(place)) for place in range(len(places))]), made)


class Scans:
    """The scans of a plan, from the left to the right, and its conditions, in the order in which they are read.

    All columns are named by their places in the rows of the plan.
    """

    def __init__(self, plan, sources, parameters):
        self.names, self._conditions = _read(plan, 0, sources)
        if len(self.names) > MOST_SCANS:
            raise NoPlan("there are too many scans")
        self._given = Given(sources, parameters)
        self._columns = []
        first = 0
        for name in self.names:
            many = len(sources[name].columns)
            self._columns.append(list(range(first, first + many)))
            first += many
        if any([len(sources[name].rows) > MOST_ROWS for name in self.names]):
            raise NoPlan("a scan has too many rows")

    def all_of_them(self):
        """Return the group of all scans."""
        return tuple(range(len(self.names)))

    def columns_of(self, scan):
        """Return the places of the columns of a scan."""
        return self._columns[scan]

    def rows_of(self, scan):
        """Return the rows of a scan."""
        return self._given.sources[self.names[scan]].rows

    def asked(self, group, parts):
        """Return the conditions that can be asked of a group of scans and not of one of these parts of it."""
        found = []
        for condition in self._conditions:
            if self._sees(group, condition) and not any([self._sees(part, condition) for part in parts]):
                found.append(condition)
        return found

    def _sees(self, group, condition):
        """Return True if the condition uses only columns of these scans."""
        places = [place for scan in group for place in self._columns[scan]]
        return all([place in places for place in used_places(condition)])

    def rows_with(self, order, rows, conditions):
        """Return those of the rows for which the conditions hold; a row is a tuple of rows of the scans in order."""
        scopes = tuple([[column_at(place)[1:] for place in self._columns[scan]] for scan in order])
        for condition in conditions:
            holds = prepared(condition, scopes, self._given)
            rows = [row for row in rows if holds(row) is True]
        return rows


def _read(plan, first, sources):
    """Return the names of the scans of a plan and its conditions; the first one of its columns has this place."""
    if plan[0] == "scan":
        return ([plan[1]], [])
    if plan[0] not in ("keep", "cross", "join"):
        raise NoPlan("a step is no keep, cross, join or scan")
    names, conditions, place = [], [], first
    for each in below(plan):
        more_names, more_conditions = _read(each, place, sources)
        names = names + more_names
        conditions = conditions + more_conditions
        place += width(each, sources)
    if plan[0] != "cross":
        conditions = conditions + [moved(plan[1], first)]
    return (names, conditions)


def _groups_of(scans):
    """Return all groups of these scans, from the smallest to the largest ones."""
    groups = [()]
    for scan in scans:
        groups = groups + [group + (scan,) for group in groups]
    return [group for _, group in sorted([(len(group), group) for group in groups if len(group) > 0])]


def _table(scans):
    """Return the table of all groups that are told."""
    table = {}
    # For each group that is told its scans in the order in which their rows stand in its rows, and these.
    made = {}
    for group in _groups_of(scans.all_of_them()):
        if len(group) == 1:
            rows = [(row,) for row in scans.rows_of(group[0])]
            made[group] = (group, scans.rows_with(group, rows, scans.asked(group, [])))
            table[group] = (len(made[group][1]), 0, None)
            continue
        ways = _ways(table, group)
        if len(ways) > 0:
            cost, first, second = min(ways)
            made[group] = _crossed(scans, made, group, first, second)
            table[group] = (len(made[group][1]), cost, first)
    if scans.all_of_them() not in table:
        raise NoPlan("no way to all scans is told")
    return table


def _ways(table, group):
    """Return the triples of the cost and the two parts of all ways to divide a group."""
    ways = []
    for first in _groups_of(group):
        second = tuple([scan for scan in group if scan not in first])
        if first in table and second in table:
            pairs = table[first][0] * table[second][0]
            if pairs <= MOST_ROWS:
                ways.append((table[first][1] + table[second][1] + pairs, first, second))
    return ways


def _crossed(scans, made, group, first, second):
    """Return the order of the scans in the rows of a group, and these rows."""
    order, rows = made[first]
    more, others = made[second]
    pairs = [row + other for row in rows for other in others]
    return (order + more, scans.rows_with(order + more, pairs, scans.asked(group, [first, second])))


def _planned(scans, table, group):
    """Return the plan that the table tells for a group, and the places of its columns in the rows of all scans."""
    first = table[group][2]
    if first is None:
        parts = []
        plan, places = ("scan", scans.names[group[0]]), scans.columns_of(group[0])
    else:
        parts = [first, tuple([scan for scan in group if scan not in first])]
        left, left_places = _planned(scans, table, parts[0])
        right, right_places = _planned(scans, table, parts[1])
        plan, places = ("cross", left, right), left_places + right_places
    for condition in scans.asked(group, parts):
        plan = ("keep", _replaced_by(condition, places), plan)
    return (plan, places)


def _replaced_by(condition, places):
    """Return the condition over rows whose columns have these places in the rows of all scans."""
    return replaced(condition, lambda column: column_at(places.index(place_of(column))))
