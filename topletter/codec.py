"""Timetables as bytes."""

from topletter.checks import is_number
from topletter.errors import DecodeError, InvalidCount
from topletter.timetables import MOST_ROWS, Timetable

MOST_IN_BYTE = 255
FIRST_BYTE = 76
MOST_OF_ROW = 99
CHECK_START = 4
CHECK_TIMES = 3
CHECK_RANGE = 241


def pack_bytes(values):
    """The bytes with the values of a list of integers from 0 to 255."""
    if not isinstance(values, list) or not all([is_number(value, 0, MOST_IN_BYTE) for value in values]):
        raise InvalidCount("this must be a list of integers from 0 to 255")
    return bytes(values)


def unpack_bytes(data):
    """The list of the values of bytes."""
    return list(data)


def _checksum(values):
    check = CHECK_START
    for value in values:
        check = int(CHECK_TIMES * check + value) % CHECK_RANGE
    return check


def encode_timetable(timetable):
    """The bytes of a timetable."""
    rows = timetable.rows
    values = [FIRST_BYTE, len(rows)]
    values.extend([10 * come + answers for come, answers in rows])
    values.append(_checksum(values))
    return bytes(values)


def _byte_at(data, offset, lowest, highest):
    """The byte at an offset, up to which all bytes are valid."""
    if offset == len(data) or not lowest <= data[offset] <= highest:
        raise DecodeError(offset)
    return data[offset]


def decode_timetable(data):
    """The timetable of bytes."""
    if not isinstance(data, bytes):
        raise DecodeError(0)
    _byte_at(data, 0, FIRST_BYTE, FIRST_BYTE)
    many = _byte_at(data, 1, 1, MOST_ROWS)
    end = 2 + many
    rows = [divmod(_byte_at(data, offset, 0, MOST_OF_ROW), 10) for offset in range(2, end)]
    check = _checksum(data[:end])
    _byte_at(data, end, check, check)
    if len(data) > end + 1:
        raise DecodeError(end + 1)
    return Timetable(*rows)
