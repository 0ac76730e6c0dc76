"""Trays as bytes."""

from tiltheap.checks import is_number
from tiltheap.errors import DecodeError, InvalidCount
from tiltheap.trays import EMPTY, LETTERS, MAX_SIDE, Tray

MAX_BYTE = 255
FIRST_BYTE = 84
HEAD_SIZE = 4
FIRST_CHECKSUM = 6
CHECKSUM_MODULUS = 239


def pack_bytes(values):
    """Return the bytes with the values of a list."""
    if not isinstance(values, list) or not all([is_number(value, MAX_BYTE) for value in values]):
        raise InvalidCount("not a list of numbers from 0 to 255")
    return bytes(values)


def unpack_bytes(data):
    """Return the list of the values of bytes."""
    return list(data)


def encode_tray(tray):
    """Return the bytes of a tray."""
    values = [FIRST_BYTE, tray.height, tray.width, len(tray.marbles)]
    for marble in tray.marbles:
        row, column = tray(marble)
        values.append(LETTERS.index(marble))
        values.append(row * tray.width + column)
    checksum = _checksum(values)
    return pack_bytes(values + [checksum])


def decode_tray(data):
    """Return the tray of bytes."""
    if not isinstance(data, bytes):
        raise DecodeError(0)
    _read(data, 0, FIRST_BYTE, FIRST_BYTE)
    height = _read(data, 1, 1, MAX_SIDE)
    width = _read(data, 2, 1, MAX_SIDE)
    count = _read(data, 3, 0, min(height * width, len(LETTERS)))
    end = HEAD_SIZE + 2 * count
    cells = [EMPTY] * (height * width)
    least = 0
    for offset in range(HEAD_SIZE, end, 2):
        number = _read(data, offset, least, len(LETTERS) - 1)
        place = _read(data, offset + 1, 0, len(cells) - 1)
        if cells[place] != EMPTY:
            raise DecodeError(offset + 1)
        cells[place] = LETTERS[number]
        least = number + 1
    checksum = _checksum(data[:end])
    _read(data, end, checksum, checksum)
    if len(data) > end + 1:
        raise DecodeError(end + 1)
    rows = ["".join(cells[start:start + width]) for start in range(0, len(cells), width)]
    return Tray(*rows)


def _read(data, offset, least, most):
    """Return the byte at an offset, and raise DecodeError unless it is from `least` to `most`."""
    # All bytes before this one have been read. So if it is missing, its offset is the
    # length of the data.
    if offset >= len(data) or not least <= data[offset] <= most:
        raise DecodeError(offset)
    return data[offset]


def _checksum(values):
    """Return the checksum of the bytes before it."""
    checksum = FIRST_CHECKSUM
    for value in values:
        # By `int` it is plain that the sign for the rest stands behind a number.
        checksum = int(2 * checksum + value) % CHECKSUM_MODULUS
    return checksum
