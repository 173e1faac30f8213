"""Parcels as rows of bytes, their marks and their seals (DOC.md 6.1, 6.2)."""

from cutlinked.errors import BadRow, NoParcel, NoRow
from cutlinked.kinds import is_between

# All signs from the blank on but the one that no string has.
SIGNS = " !\"#$&'()*+,-./0123456789:;<=>?@ABCDEFGHIJKLMNOPQRSTUVWXYZ[\\]^_`abcdefghijklmnopqrstuvwxyz{|}~"
MOST_SIGNS = 20
MOST_DEEP = 20

# The bytes for the sorts of parcels; of those below INTEGER nothing follows.
CONSTANTS = (None, False, True)
INTEGER = 3
BELOW_ZERO = 4
STRING = 5
TUPLE = 6

SEAL_BYTES = 4


def is_byte_row(thing):
    """Whether a thing is a tuple of bytes."""
    return isinstance(thing, tuple) and all([is_between(0, 255, byte) for byte in thing])


def is_parcel(thing):
    """Whether a thing is a parcel."""
    return _is_parcel_within(thing, MOST_DEEP)


def _is_parcel_within(thing, deep):
    """Whether a thing is a parcel that is nested at most so deep."""
    if isinstance(thing, tuple):
        return deep > 0 and all([_is_parcel_within(part, deep - 1) for part in thing])
    if isinstance(thing, str):
        return 1 <= len(thing) <= MOST_SIGNS and all([sign in SIGNS for sign in thing])
    return thing is None or isinstance(thing, int)


def row_of(parcel):
    """The byte row of a parcel."""
    if not is_parcel(parcel):
        raise NoParcel()
    return tuple(_bytes_of(parcel))


def _bytes_of(parcel):
    """The list of the bytes of a parcel."""
    if parcel is None or isinstance(parcel, bool):
        return [0 if parcel is None else 1 + int(parcel)]
    if isinstance(parcel, int):
        return [INTEGER] + _whole_of(parcel) if parcel >= 0 else [BELOW_ZERO] + _whole_of(-1 - parcel)
    if isinstance(parcel, str):
        return [STRING] + _whole_of(len(parcel)) + [ord(sign) for sign in parcel]
    found = [TUPLE] + _whole_of(len(parcel))
    for part in parcel:
        found.extend(_bytes_of(part))
    return found


def _whole_of(number):
    """The list of the bytes that tell a number."""
    found = []
    while number >= 128:
        found.append(128 + (number & 127))
        number = number >> 7
    return found + [number]


def parcel_of(row):
    """The parcel of which this is the byte row."""
    if not is_byte_row(row):
        raise NoRow()
    parcel, behind = _read_parcel(row, 0, MOST_DEEP)
    if behind < len(row):
        raise BadRow(behind)
    return parcel


def _read_parcel(row, place, deep):
    """The pair of the parcel at a place, nested at most so deep, and of the place behind it."""
    if place == len(row) or row[place] > TUPLE or (row[place] == TUPLE and deep == 0):
        raise BadRow(place)
    sort = row[place]
    if sort < INTEGER:
        return CONSTANTS[sort], place + 1
    whole, behind = _read_whole(row, place + 1)
    if sort == INTEGER:
        return whole, behind
    if sort == BELOW_ZERO:
        return -1 - whole, behind
    if sort == TUPLE:
        return _read_parts(row, behind, whole, deep - 1)
    if not 1 <= whole <= MOST_SIGNS:
        raise BadRow(place + 1)
    return _read_signs(row, behind, whole)


def _read_whole(row, start):
    """The pair of the number that is told from a place on, and of the place behind it."""
    end = start
    while end < len(row) and row[end] >= 128:
        end += 1
    if end == len(row) or (end > start and row[end] == 0):
        raise BadRow(start)
    number = 0
    for place in range(end, start - 1, -1):
        number = (number << 7) + (row[place] & 127)
    return number, end + 1


def _read_parts(row, place, many, deep):
    """The pair of the tuple of so many parcels from a place on, and of the place behind them."""
    parts = []
    while len(parts) < many:
        part, place = _read_parcel(row, place, deep)
        parts.append(part)
    return tuple(parts), place


def _read_signs(row, place, many):
    """The pair of the string of so many signs from a place on, and of the place behind them."""
    text = ""
    while len(text) < many:
        sign = _sign_at(row, place)
        if sign is None:
            raise BadRow(place)
        text += sign
        place += 1
    return text, place


def _sign_at(row, place):
    """The sign whose number stands at a place, None if none does."""
    if place < len(row):
        for sign in SIGNS:
            if ord(sign) == row[place]:
                return sign
    return None


def mark(row):
    """The mark of a byte row."""
    if not is_byte_row(row):
        raise NoRow()
    found = 1
    for byte in row:
        found = (1000003 * found + byte + 1) % (2 ** 61 - 1)
    return found


def sealed(parcel):
    """The byte row of a parcel, and its seal."""
    row = row_of(parcel)
    return row + _seal_of(row)


def _seal_of(row):
    """The bytes that tell the mark of a byte row, as far as they reach, the lowest first."""
    left = mark(row)
    found = []
    for _ in range(SEAL_BYTES):
        found.append(left & 255)
        left = left >> 8
    return tuple(found)


def unsealed(row):
    """The tuple of the one parcel that a row is sealed of, the empty one for anything else."""
    if not is_byte_row(row):
        return ()
    bare = row[:-SEAL_BYTES]
    if _seal_of(bare) != row[-SEAL_BYTES:]:
        return ()
    try:
        return (parcel_of(bare),)
    except BadRow:
        return ()
