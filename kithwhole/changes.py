"""Changes, their past and their order."""


class Change:
    """A change: its header, and for each space its part, or None if that is not known."""

    def __init__(self, author, number, heard, capability, publics, parts):
        self.author = author
        self.number = number
        self.heard = tuple(heard)
        self.capability = capability
        self.publics = tuple(publics)
        self.parts = tuple([None if part is None else tuple(part) for part in parts])

    def name(self):
        """Return the name of the change."""
        return (self.author, self.number)

    def header(self):
        """Return all of the change but its parts."""
        return (self.author, self.number, self.heard, self.capability, self.publics)

    def with_parts(self, parts):
        """Return a new change with the same header and these parts."""
        return Change(self.author, self.number, self.heard, self.capability, self.publics, parts)


def in_past(name, change):
    """Return True if the change with this name is in the past of the change."""
    author, number = name
    return author in range(len(change.heard)) and 1 <= number <= change.heard[author]


def related(first, second):
    """Return True if one of the two changes is in the past of the other."""
    return in_past(first.name(), second) or in_past(second.name(), first)


def order_key(change):
    """Return what the change is ordered by: what it had heard, its author, its number."""
    return (sum(change.heard), change.author, change.number)


def in_order(changes):
    """Return a new list of the changes in their order."""
    return sorted(changes, key=order_key)
