"""The characters of the cells that hold letters."""

from kithwhole.rights import allowed_seals, stands_by
from kithwhole.store import heard_cut, is_cut
from kithwhole.undo import acts_of, is_closed_for, knows, part_of, taking_effect


def characters(store, allowed, space, row, column):
    """Return the list of triples of a mark, its character, and whether it shows."""
    return Letters(store, allowed, space).listed(row, column)


def text_of(store, allowed, space, row, column):
    """Return the string of the characters of the cell that show."""
    return Letters(store, allowed, space).text(row, column)


class Letters:
    """What tells the characters of all cells of a space, gathered once."""

    def __init__(self, store, allowed, space):
        self._store = store
        self._seals = allowed_seals(store, allowed)
        self._effect = taking_effect(store, allowed, space)
        self._holds = {}
        self._removes = {}
        for spot, act in acts_of(store, self._effect, space):
            if act[0] == "column":
                self._holds[spot] = act[3]
            if act[0] == "remove" and knows(store, spot, act[1][:3]):
                self._removes.setdefault(act[1], []).append(spot)
        kept = store.kept[space]
        self._kept = {} if kept is None else {cell: list(pairs) for cell, pairs in kept.texts}
        self._inserts = self._gathered(space)

    def _gathered(self, space):
        """Return for each cell the inserts that are asked about it, with their spots."""
        inserts = {}
        for change in self._store.all_changes():
            if not heard_cut(self._store, change) or not stands_by(self._seals, change):
                continue
            for place, act in enumerate(part_of(change, space)):
                if act[0] == "insert":
                    spot = change.name() + (place,)
                    inserts.setdefault((act[1], act[2]), []).append((spot, act))
        return inserts

    def text(self, row, column):
        """Return the string of the characters of the cell that show."""
        return "".join([character for _, character, shows in self.listed(row, column) if shows])

    def listed(self, row, column):
        """Return the triples of all characters of the cell, in the order of the list."""
        if self._holds.get(column) != "letters":
            return []
        # For each mark, and for None at the beginning, the mark that stands behind it.
        behind = {None: None}
        signs = {}
        _chain(behind, signs, None, self._kept.get((row, column), []))
        for spot, act in self._inserts.get((row, column), []):
            if not self._is_skipped(spot, act, signs):
                _chain(behind, signs, act[3], _marked(spot, act[4]))
        order = []
        mark = behind[None]
        while mark is not None:
            order.append((mark, signs[mark], self._shows(mark)))
            mark = behind[mark]
        return order

    def _is_skipped(self, spot, act, signs):
        mark = act[3]
        if not knows(self._store, spot, act[1]) or not knows(self._store, spot, act[2]):
            return True
        if mark is None:
            return False
        if mark not in signs or not knows(self._store, spot, mark[:3]):
            return True
        return self._is_dead(mark, spot)

    def _is_dead(self, mark, spot):
        """Return True if the character in the list is dead for the act with the spot."""
        change = self._store.find(spot[:2])
        if not is_closed_for(self._store, self._seals, change, mark[:2]):
            return False
        if not self._takes_effect(mark[:2]):
            return True
        removes = self._removes.get(mark, [])
        return any([is_closed_for(self._store, self._seals, change, remove[:2]) for remove in removes])

    def _shows(self, mark):
        return self._takes_effect(mark[:2]) and mark not in self._removes

    def _takes_effect(self, name):
        # What is in the list of a change that is cut away is kept.
        return is_cut(self._store, name) or self._effect.get(name, False)


def _marked(spot, text):
    return [(spot + (index,), character) for index, character in enumerate(text)]


def _chain(behind, signs, mark, pairs):
    """Hang the marks of the pairs of a mark and a character behind the mark."""
    end = behind[mark]
    for each, character in pairs:
        behind[mark] = each
        signs[each] = character
        mark = each
    behind[mark] = end
