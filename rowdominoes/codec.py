"""The bytes of a row."""

from rowdominoes.checks import is_number
from rowdominoes.errors import DecodeError, InvalidCount
from rowdominoes.rows import GREATEST_HEIGHT, GREATEST_PLACE, Row

FIRST_BYTE = 68
FIRST_CHECKSUM = 8
GREATEST_BYTE = 255
# A group of seven bits is less than this, which is added to it unless it is the last one.
GROUP = 128


def pack_bytes(values):
    """The bytes with these values."""
    if not isinstance(values, list) or not all([is_number(value, 0, GREATEST_BYTE) for value in values]):
        raise InvalidCount(f"no list of numbers from 0 to {GREATEST_BYTE}")
    return bytes(values)


def unpack_bytes(data):
    """The list of the values of bytes."""
    return list(data)


def encode_row(row):
    """The bytes of a row."""
    values = [FIRST_BYTE, len(row)]
    place_before = 0
    for place, height in row.stones:
        values.extend(_groups(place - place_before))
        values.extend(_groups(height))
        place_before = place
    return pack_bytes(values + [_checksum(values)])


def _groups(number):
    """The values of the bytes of a number."""
    values = []
    rest, group = divmod(number, GROUP)
    while rest > 0:
        values.append(group + GROUP)
        rest, group = divmod(rest, GROUP)
    return values + [group]


def _checksum(values):
    checksum = FIRST_CHECKSUM
    for value in values:
        checksum = int(3 * checksum + value) % 251
    return checksum


def decode_row(data):
    """The row of bytes."""
    if not isinstance(data, bytes) or _byte_at(data, 0) != FIRST_BYTE:
        raise DecodeError(0)
    count = _byte_at(data, 1)
    if count > Row.MAX_STONES:
        raise DecodeError(1)
    stones = []
    place = 0
    offset = 2
    for stone in range(count):
        least_distance = 0 if stone == 0 else 1
        distance, offset = _read_number(data, offset, least_distance, GREATEST_PLACE - place)
        height, offset = _read_number(data, offset, 1, GREATEST_HEIGHT)
        place = place + distance
        stones.append((place, height))
    _check_end(data, offset)
    return Row(*stones)


def _byte_at(data, offset):
    if offset == len(data):
        raise DecodeError(offset)
    return data[offset]


def _read_number(data, start, least, greatest):
    """The number from least to greatest whose bytes begin at start, and the offset after them."""
    number = 0
    weight = 1
    offset = start
    byte = _byte_at(data, offset)
    while byte >= GROUP:
        number = number + (byte - GROUP) * weight
        weight = weight * GROUP
        offset = offset + 1
        byte = _byte_at(data, offset)
    if byte == 0 and offset > start:
        raise DecodeError(offset)
    number = number + byte * weight
    if not least <= number <= greatest:
        raise DecodeError(start)
    return number, offset + 1


def _check_end(data, offset):
    """Raise DecodeError unless the checksum stands at the offset, and nothing after it."""
    if _byte_at(data, offset) != _checksum(data[:offset]):
        raise DecodeError(offset)
    if len(data) > offset + 1:
        raise DecodeError(offset + 1)
