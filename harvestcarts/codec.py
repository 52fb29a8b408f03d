"""Bytes of farms: lists of integers from 0 to 255."""

from harvestcarts.checks import LETTERS, MAX_NAME, is_number
from harvestcarts.errors import DecodeError
from harvestcarts.farms import MAX_LIMIT, Farm

FIRST_BYTE = 72
CHECKSUM_START = 5
CHECKSUM_FACTOR = 3
CHECKSUM_MODULUS = 233


def _checksum(data):
    """Return the checksum behind some bytes."""
    checksum = CHECKSUM_START
    for byte in data:
        checksum = (CHECKSUM_FACTOR * checksum + byte) % CHECKSUM_MODULUS
    return checksum


def encode_farm(farm):
    """Return the bytes of a farm."""
    data = [FIRST_BYTE, len(farm)]
    for name, limit in farm.fields:
        data.extend([limit, len(name)])
        data.extend([LETTERS.index(letter) for letter in name])
    data.append(_checksum(data))
    return data


def _byte_at(data, offset, low, high):
    """Return the byte at an offset, which must be there and be from low to high."""
    if offset >= len(data) or not is_number(data[offset], low, high):
        raise DecodeError(offset=offset)
    return data[offset]


def _name_at(data, offset):
    """Return the name whose length is at an offset."""
    size = _byte_at(data, offset, 1, MAX_NAME)
    places = [_byte_at(data, offset + 1 + step, 0, len(LETTERS) - 1) for step in range(size)]
    return "".join([LETTERS[place] for place in places])


def decode_farm(data):
    """Return the farm of a list of bytes."""
    _byte_at(data, 0, FIRST_BYTE, FIRST_BYTE)
    count = _byte_at(data, 1, 1, Farm.MAX_FIELDS)
    limit_of = {}
    states = 1
    offset = 2
    for _ in range(count):
        limit = _byte_at(data, offset, 1, min(MAX_LIMIT, Farm.MAX_STATES // states))
        name = _name_at(data, offset + 1)
        if name in limit_of:
            raise DecodeError(offset=offset + 1)
        limit_of[name] = limit
        states = states * limit
        offset = offset + 2 + len(name)
    checksum = _checksum(data[:offset])
    _byte_at(data, offset, checksum, checksum)
    if len(data) > offset + 1:
        raise DecodeError(offset=offset + 1)
    fields = list(limit_of.items())
    return Farm(*fields)
