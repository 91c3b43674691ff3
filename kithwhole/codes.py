"""The written form of data: lists of bytes."""

from kithwhole.forms import ACTS, GRANT, HOLDS, REVOKE, SEAL


def write_number(number):
    """Return the bytes of a natural number: seven bits in each, the lowest first."""
    data = []
    while number > 127:
        data.append(number & 127 | 128)
        number = number >> 7
    return data + [number]


def write_boolean(truth):
    """Return the byte of a boolean."""
    return [1] if truth else [0]


def write_integer(number):
    """Return the bytes of an integer: whether it is negative, and its absolute value."""
    return write_boolean(number < 0) + write_number(abs(number))


def write_list(things, writing):
    """Return the bytes of a list; `writing` is a function that returns the bytes of one of its items."""
    data = write_number(len(things))
    for thing in things:
        data.extend(writing(thing))
    return data


def write_optional(thing, writing):
    """Return the bytes of something that may be None; `writing` is a function that returns its bytes."""
    return [0] if thing is None else [1] + writing(thing)


def write_string(text):
    """Return the bytes of a string."""
    return write_list(text, _sign)


def _sign(sign):
    return write_number(ord(sign))


def write_spot(spot):
    """Return the bytes of a name, a spot or a mark."""
    data = []
    for part in spot:
        data.extend(write_number(part))
    return data


def write_place(spot):
    """Return the bytes of an optional spot or mark."""
    return write_optional(spot, write_spot)


def write_value(value):
    """Return the bytes of a value."""
    if value is None:
        return [0]
    if isinstance(value, bool):
        return [1] + write_boolean(value)
    if isinstance(value, int):
        return [2] + write_integer(value)
    return [3] + write_string(value)


# acts


def _holds(holds):
    if isinstance(holds, tuple):
        return [len(HOLDS)] + write_spot(holds[1])
    return [HOLDS.index(holds)]


def _spots(spots):
    return write_list(spots, write_spot)


def _shown(pairs):
    return write_list(pairs, _shown_pair)


def _shown_pair(pair):
    return write_spot(pair[0]) + write_string(pair[1])


def _fixed(pairs):
    return write_list(pairs, _fixed_pair)


def _fixed_pair(pair):
    return write_spot(pair[0]) + write_value(pair[1])


FIELDS = {
    "string": write_string, "spot": write_spot, "spots": _spots, "holds": _holds, "value": write_value,
    "place": write_place, "position": write_place, "integer": write_integer, "mark": write_spot, "name": write_spot,
    "number": write_number, "shown": _shown, "fixed": _fixed,
}


def write_act(act):
    """Return the bytes of an act: its number and its fields."""
    number = [form[0] for form in ACTS].index(act[0])
    data = [number]
    for form, field in zip(ACTS[number][1:], act[1:]):
        writing = FIELDS[form]
        data.extend(writing(field))
    return data


# changes


def _rights(rights):
    return [int(right) for of_space in rights for right in of_space]


def _public(act):
    if act[0] == "grant":
        return [GRANT] + write_number(act[1]) + _rights(act[2])
    return [SEAL] if act[0] == "seal" else [REVOKE] + write_place(act[1])


def _part(acts):
    return write_list(acts, write_act)


def write_change(change):
    """Return the bytes of a change: its header, and for each space its part, if that is known."""
    data = write_number(change.author) + write_number(change.number) + write_list(change.heard, write_number)
    data = data + write_place(change.capability) + write_list(change.publics, _public)
    for part in change.parts:
        data.extend(write_optional(part, _part))
    return data


# what is kept, and stores


def write_capability(entry):
    """Return the bytes of what is kept of a capability."""
    capability, parent, holder, rights = entry
    return write_spot(capability) + write_place(parent) + write_number(holder) + _rights(rights)


def _cell(cell):
    return write_spot(cell[0]) + write_spot(cell[1])


def _kept_act(pair):
    return write_spot(pair[0]) + write_act(pair[1])


def _kept_sum(pair):
    return _cell(pair[0]) + write_integer(pair[1])


def _kept_text(pair):
    return _cell(pair[0]) + write_list(pair[1], _kept_sign)


def _kept_sign(pair):
    return write_spot(pair[0]) + _sign(pair[1])


def _kept_share(pair):
    return _cell(pair[0]) + write_number(pair[0][2]) + write_number(pair[1])


def write_kept(kept):
    """Return the bytes of what is kept of a space."""
    data = write_list(kept.acts, _kept_act) + write_list(kept.sums, _kept_sum)
    return data + write_list(kept.texts, _kept_text) + write_list(kept.shares, _kept_share)


def write_past(store):
    """Return the bytes of the cut and of the kept capabilities of a store."""
    return write_list(store.cut, write_number) + write_list(store.capabilities, write_capability)


def write_store(store):
    """Return the bytes of a store."""
    data = write_past(store)
    for kept in store.kept:
        data.extend(write_optional(kept, write_kept))
    for changes in store.changes:
        data.extend(write_list(changes, write_change))
    return data
