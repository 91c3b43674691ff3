"""The log of a replica: records in a file that tell a store and what was done to it."""

from kithwhole.codes import write_change, write_number, write_store
from kithwhole.errors import DamagedPacket, UnfitPacket
from kithwhole.packets import GIVES, taking
from kithwhole.reading import Reader
from kithwhole.store import is_whole

TURN = 1
END = 2
# Behind this byte stands a store, and in a note a change.
TOLD = 3
CHECKSUM_BYTES = 4


def checksum(data):
    """Return the checksum of bytes."""
    total = 7
    for byte in data:
        total = (31 * total + byte + 1) % 4294967296
    return total


def _four_bytes(number):
    return [number >> 24 & 255, number >> 16 & 255, number >> 8 & 255, number & 255]


def write_record(data):
    """Return the bytes of a record."""
    return write_number(len(data)) + list(data) + _four_bytes(checksum(data))


def _size(record):
    """Return the number of bytes of a record with these bytes in it."""
    return len(write_number(len(record))) + len(record) + CHECKSUM_BYTES


def read_records(data):
    """Return the complete records at the front, and the number of bytes that they take."""
    reader = Reader(data)
    records = []
    size = 0
    record = _next_record(reader)
    while record is not None:
        records.append(record)
        size = reader.at
        record = _next_record(reader)
    return (records, size)


def _next_record(reader):
    """Return the bytes of the next record, or None if it is not complete."""
    try:
        record = reader.read_bytes(reader.read_number())
        told = reader.read_bytes(CHECKSUM_BYTES)
    except DamagedPacket:
        return None
    return record if told == _four_bytes(checksum(record)) else None


def log_start(turn, store):
    """Return the bytes of a log without notes."""
    return write_record([TURN] + write_number(turn)) + write_record([TOLD] + write_store(store)) + write_record([END])


def change_note(change):
    """Return the record of a note with a change that a replica made."""
    return write_record([TOLD] + write_change(change))


def packet_note(packet):
    """Return the record of a note with a packet that a replica took."""
    return write_record(packet)


def read_log(data, members):
    """Return the turn, the store and the size that a file tells, or None if it tells nothing."""
    records, _ = read_records(data)
    if len(records) < 3 or records[2] != [END]:
        return None
    try:
        turn = _read_turn(records[0])
        store = _read_start(records[1], members)
    except DamagedPacket:
        return None
    size = sum([_size(record) for record in records[:3]])
    for record in records[3:]:
        later = _noted(store, record)
        if later is None:
            return (turn, store, size)
        store = later
        size += _size(record)
    return (turn, store, size)


def _open_record(record, word):
    """Return a reader of what stands behind the first byte of a record."""
    reader = Reader(record)
    if reader.read_number() != word:
        raise DamagedPacket("the record is of another kind")
    return reader


def _read_turn(record):
    reader = _open_record(record, TURN)
    turn = reader.read_number()
    reader.end()
    return turn


def _read_start(record, members):
    reader = _open_record(record, TOLD)
    store = reader.read_store()
    reader.end()
    if store.members != members:
        raise DamagedPacket("the store is of another network")
    return store


def _noted(store, record):
    """Return the store after a note, or None if the note is not as told."""
    if record[:1] == [GIVES]:
        try:
            return taking(store, record)
        except (DamagedPacket, UnfitPacket):
            return None
    try:
        reader = _open_record(record, TOLD)
        change = reader.read_change()
        reader.end()
    except DamagedPacket:
        return None
    return _with_next(store, change)


def _with_next(store, change):
    """Return the store with the next change of its author, or None if it is no such change."""
    if change.author not in range(store.members) or change.number != store.count(change.author) + 1:
        return None
    later = store.copy()
    later.add(change)
    return later if is_whole(later) else None


def counting_file(first, second, members):
    """Return the index of the file that counts, or None if neither of the two tells anything."""
    return which_counts(read_log(first, members), read_log(second, members))


def which_counts(first, second):
    """Return the index of the file that counts, given what both files tell, or None if neither tells anything."""
    if first is None:
        return None if second is None else 1
    return 1 if second is not None and second[0] > first[0] else 0
