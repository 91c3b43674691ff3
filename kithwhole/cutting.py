"""Cutting the past away at a seal, and what is kept of it."""

from kithwhole.letters import Letters
from kithwhole.rights import allowed_seals, held_entries, verdicts
from kithwhole.sheets import Sheet
from kithwhole.stocks import shares
from kithwhole.store import SPACES, Kept


def last_seal(store):
    """Return the last allowed change with a seal in the store, or None."""
    seals = allowed_seals(store, verdicts(store))
    return seals[-1] if seals else None


def before_seal(store, seal):
    """Return a new store with only the changes that would be cut away at the seal."""
    return before_cut(store, _cut_of(seal))


def before_cut(store, cut):
    """Return a new store with only the changes up to these numbers."""
    past = store.copy()
    for member, number in enumerate(cut):
        past.changes[member] = [change for change in past.changes[member] if change.number <= number]
    return past


def without_past(store, cut):
    """Return a new store in which the changes up to these numbers are cut away; what is kept is not told."""
    later = store.copy()
    later.cut = list(cut)
    for member, number in enumerate(cut):
        later.changes[member] = [change for change in later.changes[member] if change.number > number]
    return later


def _cut_of(seal):
    """Return for each member how many changes are cut away at the seal."""
    cut = list(seal.heard)
    cut[seal.author] = seal.number
    return cut


def cut_at(store, seal):
    """Return the store after the cut at an allowed seal."""
    past = before_seal(store, seal)
    later = without_past(store, _cut_of(seal))
    later.capabilities = kept_capabilities(past)
    later.kept = [kept_of(past, space) for space in range(SPACES)]
    return later


def is_known(store, space):
    """Return True if the space is fully known."""
    if store.kept[space] is None:
        return False
    return not any([change.parts[space] is None for change in store.all_changes()])


def is_known_to(store, space, seal):
    """Return True if the space is known up to the seal."""
    return is_known(before_seal(store, seal), space)


def kept_capabilities(store):
    """Return what is kept of capabilities if all changes of the store are cut away."""
    return held_entries(store, verdicts(store))


def kept_of(store, space):
    """Return what is kept of a space if all changes of the store are cut away, or None if that is not known."""
    if not is_known(store, space):
        return None
    allowed = verdicts(store)
    sheet = Sheet(store, allowed, space)
    cells = _cells(sheet)
    return Kept(_acts(sheet, cells), _sums(sheet, cells), _texts(store, allowed, space, cells), _shares(sheet, cells))


def _cells(sheet):
    """Return the triples of row, column and what the column holds, of all cells of live rows, in order."""
    cells = []
    for table in sheet.tables:
        for row in sheet.live[table]:
            cells.extend([(row, column, sheet.holds(column)) for column in sheet.columns[table]])
    return cells


def _acts(sheet, cells):
    """Return the acts that make something that is there, and the writes that show in the cells."""
    kept = {spot: True for spot in sheet.tables + sheet.lenses}
    for table in sheet.tables:
        for spot in sheet.columns[table] + sheet.rule_spots[table] + sheet.live[table]:
            kept[spot] = True
    for row, column, _ in cells:
        for spot in sheet.showing_writes(row, column):
            kept[spot] = True
    return [(spot, act) for spot, act in sheet.acts if spot in kept]


def _sums(sheet, cells):
    sums = [((row, column), sheet.entry(row, column)) for row, column, holds in cells if holds == "counter"]
    return [(cell, total) for cell, total in sums if total != 0]


def _texts(store, allowed, space, cells):
    letters = Letters(store, allowed, space)
    texts = []
    for row, column, holds in cells:
        if holds == "letters":
            signs = [(mark, sign) for mark, sign, shows in letters.listed(row, column) if shows]
            texts.append(((row, column), signs))
    return [(cell, signs) for cell, signs in texts if len(signs) > 0]


def _shares(sheet, cells):
    kept = []
    for row, column, holds in cells:
        if holds == "stock":
            kept.extend([((row, column, member), share) for member, share in enumerate(shares(sheet, row, column))])
    return [(place, share) for place, share in kept if share != 0]
