"""Reading data that are written as lists of bytes; only what is written so is read."""

from kithwhole.changes import Change
from kithwhole.errors import DamagedPacket
from kithwhole.forms import ACTS, GRANT, HOLDS, REVOKE, SEAL
from kithwhole.store import SPACES, Kept, Store

MOST_BYTES = 60
MOST_MEMBERS = 6
NEWLINE = 10
# The characters of strings, in the order of their codes. Between the two stands one that no string has.
LOWER_SIGNS = " !\"#$"
UPPER_SIGNS = "&'()*+,-./0123456789:;<=>?@ABCDEFGHIJKLMNOPQRSTUVWXYZ[\\]^_`abcdefghijklmnopqrstuvwxyz{|}~"
FIRST_LOWER = 32
FIRST_UPPER = 38


class Reader:
    """Reads a list of bytes from the front. `at` is the index of the next byte."""

    def __init__(self, data):
        self._data = list(data)
        self.at = 0

    def left(self):
        """Return how many bytes have not been read."""
        return len(self._data) - self.at

    def read_bytes(self, many):
        """Read this many bytes and return the list of them."""
        if many > self.left():
            raise DamagedPacket("there are not so many bytes")
        self.at += many
        return self._data[self.at - many:self.at]

    def read_number(self):
        """Read a natural number."""
        number = 0
        for place in range(MOST_BYTES):
            byte = self.read_bytes(1)[0]
            number = number | (byte & 127) << 7 * place
            if byte < 128:
                if byte == 0 and place > 0:
                    raise DamagedPacket("the last byte of a longer number is 0")
                return number
        raise DamagedPacket("a number is too long")

    def read_integer(self):
        """Read an integer."""
        negative = read_boolean(self)
        number = self.read_number()
        if negative and number == 0:
            raise DamagedPacket("zero is not negative")
        return -number if negative else number

    def read_string(self):
        """Read a string."""
        return "".join(read_list(self, read_sign))

    def read_value(self):
        """Read a value."""
        form = read_below(self, 4)
        if form == 0:
            return None
        if form == 1:
            return read_boolean(self)
        return self.read_integer() if form == 2 else self.read_string()

    def read_act(self):
        """Read an act."""
        forms = ACTS[read_below(self, len(ACTS))]
        fields = []
        for form in forms[1:]:
            reading = FIELDS[form]
            fields.append(reading(self))
        return (forms[0],) + tuple(fields)

    def read_change(self):
        """Read a change."""
        author = self.read_number()
        number = self.read_number()
        heard = read_list(self, read_number)
        capability = read_optional(self, read_spot)
        publics = read_list(self, _public)
        parts = [read_optional(self, _part) for _ in range(SPACES)]
        return Change(author, number, heard, capability, publics, parts)

    def read_kept(self):
        """Read what is kept of a space."""
        acts = read_list(self, _kept_act)
        sums = read_list(self, _kept_sum)
        texts = read_list(self, _kept_text)
        return Kept(acts, sums, texts, read_list(self, _kept_share))

    def read_capability(self):
        """Read what is kept of a capability."""
        capability = read_spot(self)
        parent = read_optional(self, read_spot)
        holder = self.read_number()
        return (capability, parent, holder, _rights(self))

    def read_store(self):
        """Read a store."""
        cut = read_list(self, read_number)
        if not 1 <= len(cut) <= MOST_MEMBERS:
            raise DamagedPacket("there is no network of so many members")
        store = Store(len(cut))
        store.cut = cut
        store.capabilities = read_list(self, read_capability)
        store.kept = [read_optional(self, read_kept) for _ in range(SPACES)]
        for member in range(store.members):
            for change in read_list(self, read_change):
                if change.name() != (member, store.count(member) + 1):
                    raise DamagedPacket("a change is not the next one of its author")
                store.add(change)
        return store

    def end(self):
        """Raise DamagedPacket unless all bytes have been read."""
        if self.left() > 0:
            raise DamagedPacket("there are more bytes")


# what has no method of its own; each of these reads one thing with a reader


def read_number(reader):
    """Read a natural number."""
    return reader.read_number()


def read_change(reader):
    """Read a change."""
    return reader.read_change()


def read_kept(reader):
    """Read what is kept of a space."""
    return reader.read_kept()


def read_capability(reader):
    """Read what is kept of a capability."""
    return reader.read_capability()


def read_below(reader, bound):
    """Read a natural number that is less than the bound."""
    number = reader.read_number()
    if number >= bound:
        raise DamagedPacket("a number is too great")
    return number


def read_boolean(reader):
    """Read a boolean."""
    return read_below(reader, 2) == 1


def read_list(reader, reading):
    """Read a list; `reading` is a function that reads one of its items with a reader."""
    many = reader.read_number()
    # Each item has at least one byte.
    if many > reader.left():
        raise DamagedPacket("there are not so many items")
    return [reading(reader) for _ in range(many)]


def read_optional(reader, reading):
    """Read something that may be None; `reading` is a function that reads it with a reader."""
    return reading(reader) if read_boolean(reader) else None


def read_sign(reader):
    """Read the code of a character and return the character."""
    code = reader.read_number()
    if code == NEWLINE:
        return "\n"
    if code - FIRST_LOWER in range(len(LOWER_SIGNS)):
        return LOWER_SIGNS[code - FIRST_LOWER]
    if code - FIRST_UPPER in range(len(UPPER_SIGNS)):
        return UPPER_SIGNS[code - FIRST_UPPER]
    raise DamagedPacket("a string has no such character")


def read_name(reader):
    """Read a name."""
    return _numbers(reader, 2)


def read_spot(reader):
    """Read a spot."""
    return _numbers(reader, 3)


def _mark(reader):
    return _numbers(reader, 4)


def _numbers(reader, many):
    return tuple([reader.read_number() for _ in range(many)])


# acts


def _integer(reader):
    return reader.read_integer()


def _string(reader):
    return reader.read_string()


def _value(reader):
    return reader.read_value()


def _place(reader):
    return read_optional(reader, read_spot)


def _position(reader):
    return read_optional(reader, _mark)


def _holds(reader):
    number = read_below(reader, len(HOLDS) + 1)
    return ("refer", read_spot(reader)) if number == len(HOLDS) else HOLDS[number]


def _spots(reader):
    return tuple(read_list(reader, read_spot))


def _shown(reader):
    return tuple(read_list(reader, _shown_pair))


def _shown_pair(reader):
    column = read_spot(reader)
    return (column, reader.read_string())


def _fixed(reader):
    return tuple(read_list(reader, _fixed_pair))


def _fixed_pair(reader):
    column = read_spot(reader)
    return (column, reader.read_value())


FIELDS = {
    "string": _string, "spot": read_spot, "spots": _spots, "holds": _holds, "value": _value, "place": _place,
    "position": _position, "integer": _integer, "mark": _mark, "name": read_name, "number": read_number,
    "shown": _shown, "fixed": _fixed,
}


def _act(reader):
    return reader.read_act()


# changes and what is kept


def _rights(reader):
    return tuple([_triple(reader) for _ in range(SPACES)])


def _triple(reader):
    return tuple([read_boolean(reader) for _ in range(3)])


def _public(reader):
    form = read_below(reader, SEAL + 1)
    if form == GRANT:
        member = reader.read_number()
        return ("grant", member, _rights(reader))
    return ("revoke", read_optional(reader, read_spot)) if form == REVOKE else ("seal",)


def _part(reader):
    return tuple(read_list(reader, _act))


def _cell(reader):
    row = read_spot(reader)
    return (row, read_spot(reader))


def _kept_act(reader):
    spot = read_spot(reader)
    return (spot, reader.read_act())


def _kept_sum(reader):
    cell = _cell(reader)
    return (cell, reader.read_integer())


def _kept_text(reader):
    cell = _cell(reader)
    return (cell, read_list(reader, _kept_sign))


def _kept_sign(reader):
    mark = _mark(reader)
    return (mark, read_sign(reader))


def _kept_share(reader):
    cell = _cell(reader)
    member = reader.read_number()
    return (cell + (member,), reader.read_number())
