"""Stocks: which acts are covered, and the shares of the members.

A sheet is asked for all that is needed here, so this file does not import it.
"""


def flows(sheet, row, column):
    """Return the triples of a spot, its act and what it lacks, of all acts that are judged for a cell."""
    judged = []
    if not _is_stock(sheet, row, column):
        return judged
    own = _kept_shares(sheet, row, column)
    lent = []
    for spot, act in sheet.cell_acts(row, column):
        if not _is_judged(sheet, spot, act):
            continue
        missing = 0
        if act[0] == "add":
            own[spot[0]] += act[-1]
        else:
            missing = max(0, act[-1] - own[spot[0]] - _known_loans(sheet, lent, spot))
        if missing == 0 and act[0] != "add":
            own[spot[0]] -= act[-1]
        if missing == 0 and act[0] == "lend":
            lent.append((spot, act))
        judged.append((spot, act, missing))
    return judged


def shares(sheet, row, column):
    """Return the list of the shares of all members in a cell."""
    if not _is_stock(sheet, row, column):
        return [0 for _ in range(sheet.members)]
    told = _kept_shares(sheet, row, column)
    for spot, act, missing in flows(sheet, row, column):
        if missing > 0:
            continue
        if act[0] == "add":
            told[spot[0]] += act[-1]
        else:
            told[spot[0]] -= act[-1]
        if act[0] == "lend":
            told[act[3]] += act[-1]
    return told


def shorts(sheet):
    """Return the pairs of a spot and what it lacks, of all acts that are short, in their order."""
    cells = {}
    for _, act in sheet.acts:
        if act[0] in ("spend", "lend"):
            cells[(act[1], act[2])] = True
    short = {}
    for row, column in cells:
        for spot, _, missing in flows(sheet, row, column):
            if missing > 0:
                short[spot] = missing
    return [(spot, short[spot]) for spot, _ in sheet.acts if spot in short]


def _is_stock(sheet, row, column):
    return sheet.is_live(row) and sheet.is_cell(row, column) and sheet.holds(column) == "stock"


def _kept_shares(sheet, row, column):
    return [sheet.kept_share(row, column, member) for member in range(sheet.members)]


def _is_judged(sheet, spot, act):
    if act[0] not in ("add", "spend", "lend") or act[-1] < 1:
        return False
    return act[0] != "lend" or (act[3] != spot[0] and act[3] in range(sheet.members))


def _known_loans(sheet, lent, spot):
    """Return the sum of what is lent to the author of an act, as far as the act knows it."""
    loans = [act[-1] for other, act in lent if act[3] == spot[0] and sheet.knows(spot, other)]
    return sum(loans)
