"""The bytes of the shortest file of a value, which its shape tells alone."""

from nestfile.layout import HEADER, least_width, number_octets, numbers_octets
from nestfile.objects import SIZE_FOLLOWS

# The numbers that fit in 2 ** n bytes end before these. From 8 bytes on, n is 3, they have a sign.
INTEGER_ENDS = (1 << 8, 1 << 16, 1 << 32, 1 << 63, 1 << 127)
SIGNED = 3
NARROW_END = 128


def _integer(number):
    n = SIGNED if number < 0 else 0
    while number >= INTEGER_ENDS[n]:
        n += 1
    return [0x10 + n] + number_octets(number, 1 << n)


def _uid(number):
    width = least_width(number)
    return [0x80 + width - 1] + number_octets(number, width)


def _sized(marker, size):
    """Write a marker whose second digit tells a size, and the size behind it if it does not fit there."""
    if size < SIZE_FOLLOWS:
        return [marker + size]
    return [marker + SIZE_FOLLOWS] + _integer(size)


def _string(worth):
    units = [ord(sign) for sign in worth] if isinstance(worth, str) else list(worth)
    if max(units, default=0) < NARROW_END:
        return _sized(0x50, len(units)) + units
    return _sized(0x60, len(units)) + numbers_octets(units, 2)


def head(row):
    """Write the object of a row as short as it can be, but for its references."""
    kind, worth, links = row
    if kind == "list":
        return _sized(0xA0, len(links))
    if kind == "dictionary":
        return _sized(0xD0, len(links) // 2)
    if kind == "string":
        return _string(worth)
    if kind == "integer":
        return _integer(worth)
    if kind == "uid":
        return _uid(worth)
    if kind == "data":
        return _sized(0x40, len(worth)) + list(worth)
    if kind == "real":
        return [0x22 if len(worth) == 4 else 0x23] + list(worth)
    if kind == "date":
        return [0x33] + list(worth)
    if kind == "truth":
        return [0x09 if worth else 0x08]
    return [0x00]


def reference_width(many):
    """Return the bytes of each reference in the shortest file with so many objects."""
    # All are referred to but the top one, which has the greatest number.
    return least_width(max(0, many - 2))


def _objects(shape):
    width = reference_width(len(shape))
    return [head(row) + numbers_octets(row[2], width) if row[2] else head(row) for row in shape]


def _standing(objects):
    """List the numbers of the objects as they stand in the file: the last of the longest ones stands last."""
    longest = 0
    for number, one in enumerate(objects):
        if len(one) >= len(objects[longest]):
            longest = number
    return [number for number in range(len(objects)) if number != longest] + [longest]


def packed(shape):
    """Return the bytes of the shortest file of the value with this shape."""
    objects = _objects(shape)
    many = len(objects)
    data = list(HEADER)
    places = [0] * many
    for number in _standing(objects):
        places[number] = len(data)
        data.extend(objects[number])
    table = len(data)
    width = least_width(max(places))
    data.extend(numbers_octets(places, width))
    data.extend([0, 0, 0, 0, 0, 0, width, reference_width(many)])
    data.extend(numbers_octets((many, many - 1, table), 8))
    return data
