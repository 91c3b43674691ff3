"""Names, spots and marks and their written form."""

from kithwhole.errors import InvalidName

DIGITS = "0123456789"
MOST_DIGITS = 15


def format_name(name):
    """Return the written form of a name, a spot or a mark."""
    return ".".join([str(part) for part in name])


def parse_name(text):
    """Return the name whose written form is the text."""
    return _parse(text, 2)


def parse_spot(text):
    """Return the spot whose written form is the text."""
    return _parse(text, 3)


def parse_mark(text):
    """Return the mark whose written form is the text."""
    return _parse(text, 4)


def _parse(text, length):
    if not isinstance(text, str):
        raise InvalidName("a written form is a string")
    parts = text.split(".")
    if len(parts) != length:
        raise InvalidName(f"not {length} parts")
    if not all([_is_part(part) for part in parts]):
        raise InvalidName("a part is no number in its written form")
    numbers = tuple([int(part) for part in parts])
    if numbers[1] < 1:
        raise InvalidName("the numbers of changes start at 1")
    return numbers


def _is_part(part):
    if not 1 <= len(part) <= MOST_DIGITS:
        return False
    # isdigit would also take digits of other scripts.
    if not all([character in DIGITS for character in part]):
        return False
    return part == "0" or part[0] != "0"
