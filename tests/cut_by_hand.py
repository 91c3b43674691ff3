"""The past cut away as points 90 to 92 tell it, to get stores with a cut and kept things."""

from kithwhole.rights import verdicts
from kithwhole.store import SPACES, Kept
from tests.oracle import Oracle


def cut_by_hand(store, seal):
    """The store cut at an allowed seal."""
    before = store.copy()
    after = store.copy()
    after.cut = [max(pair) for pair in zip(store.cut, seal.heard)]
    after.cut[0] = seal.number
    for member in range(store.members):
        before.changes[member] = [c for c in store.changes[member] if c.number <= after.cut[member]]
        after.changes[member] = [c for c in store.changes[member] if c.number > after.cut[member]]
    after.capabilities = kept_capabilities(before)
    after.kept = [kept_of(before, space) for space in range(SPACES)]
    return after


def kept_capabilities(before):
    oracle = Oracle(before, verdicts(before), 0)
    found = [entry[0] for entry in before.capabilities]
    for name in oracle.order:
        publics = oracle.changes[name].publics
        found += [name + (place,) for place, act in enumerate(publics) if act[0] == "grant"]
    return [(each,) + oracle.stated(each) for each in sorted(found) if oracle.held(each)]


def kept_of(before, space):
    if before.kept[space] is None:
        return None
    if any(change.parts[space] is None for changes in before.changes for change in changes):
        return None
    oracle = Oracle(before, verdicts(before), space)
    tables = oracle.tables()
    made = {table: True for table in tables}
    for lens in oracle.lenses():
        made[lens] = True
    sums, texts, shares = [], [], []
    for table in tables:
        for spot in oracle.columns(table) + [rule for rule, _ in oracle.rules(table)] + oracle.live(table):
            made[spot] = True
        for row in oracle.live(table):
            for column in oracle.columns(table):
                for write in oracle.showing_writes(row, column):
                    made[write] = True
                keep_gathered(oracle, row, column, sums, texts, shares)
    acts = [(spot, act) for spot, act in oracle.acts if spot in made]
    return Kept(acts, sums, texts, shares)


def keep_gathered(oracle, row, column, sums, texts, shares):
    holds = oracle.holds(column)
    if holds == "counter" and oracle.entry(row, column) != 0:
        sums.append(((row, column), oracle.entry(row, column)))
    if holds == "letters":
        shown = [(mark, sign) for mark, sign, shows in oracle.characters(row, column) if shows]
        if shown:
            texts.append(((row, column), shown))
    if holds == "stock":
        for member, share in enumerate(oracle.shares(row, column)):
            if share != 0:
                shares.append(((row, column, member), share))


def seals_of(store):
    """The allowed changes with a seal, in the order of their numbers."""
    allowed = verdicts(store)
    return [change for change in store.changes[0] if ("seal",) in change.publics and allowed[change.name()]]
