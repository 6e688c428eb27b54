"""Puts the bytes of files together for the tests, without the package."""

HEADER = [98, 112, 108, 105, 115, 116, 48, 48]
NONE = [0x00]
FALSE = [0x08]
TRUE = [0x09]


def number(value, width):
    """The bytes of a number, negative ones in two's complement."""
    return list((value % 256 ** width).to_bytes(width, "big"))


def least(value):
    """The smallest number of bytes that holds a number, at least 1."""
    width = 1
    while value >= 256 ** width:
        width += 1
    return width


def integer(value, n=None):
    """An integer object; n chooses 2 ** n bytes, otherwise the fewest."""
    if n is None:
        fits = [k for k in range(3) if 0 <= value < 256 ** (2 ** k)]
        n = fits[0] if fits else (3 if -(2 ** 63) <= value < 2 ** 63 else 4)
    return [0x10 + n] + number(value, 2 ** n)


def sized(digit, size, n=None):
    """The marker of an object with a size; n tells it by an integer of 2 ** n bytes."""
    if size < 15 and n is None:
        return [digit * 16 + size]
    return [digit * 16 + 15] + integer(size, n)


def data(octets, n=None):
    return sized(0x4, len(octets), n) + list(octets)


def text(characters, n=None):
    return sized(0x5, len(characters), n) + [ord(c) for c in characters]


def wide(units, n=None):
    return sized(0x6, len(units), n) + [octet for unit in units for octet in number(unit, 2)]


def uid(value, width=None):
    width = width or least(value)
    return [0x80 + width - 1] + number(value, width)


def real(octets):
    return [0x22 if len(octets) == 4 else 0x23] + list(octets)


def date(octets):
    return [0x33] + list(octets)


def array(references, width=1, n=None):
    return sized(0xA, len(references), n) + [octet for one in references for octet in number(one, width)]


def dictionary(pairs, width=1, n=None):
    """A dictionary of pairs (number of the key, number of the value)."""
    numbers = [key for key, _ in pairs] + [value for _, value in pairs]
    return sized(0xD, len(pairs), n) + [octet for one in numbers for octet in number(one, width)]


def trailer(offset_width, reference_width, count, top, table, unused=(0, 0, 0, 0, 0, 0)):
    return (list(unused) + [offset_width, reference_width]
            + number(count, 8) + number(top, 8) + number(table, 8))


def framed(body, places, top=0, *, offset_width=None, reference_width=1):
    """A file of these bytes behind the header, with objects at these places."""
    table = 8 + len(body)
    offset_width = offset_width or least(max(places))
    offsets = [octet for place in places for octet in number(place, offset_width)]
    return HEADER + list(body) + offsets + trailer(offset_width, reference_width, len(places), top, table)


def built(objects, top=None, *, offset_width=None, reference_width=1, order=None, gaps=None, tail=()):
    """A file of objects, each a list of bytes.

    `order` lists the numbers as they stand in the file, `gaps` holds bytes
    that stand before objects, by their numbers, `tail` those before the table.
    The top object is the last one if nothing else is said.
    """
    places = [0] * len(objects)
    body = []
    for at in range(len(objects)) if order is None else order:
        body += list((gaps or {}).get(at, []))
        places[at] = 8 + len(body)
        body += objects[at]
    top = len(objects) - 1 if top is None else top
    return framed(body + list(tail), places, top, offset_width=offset_width, reference_width=reference_width)


def chain(many):
    """A file of lists in lists, each of one item, around a last one with none."""
    return built([array([])] + [array([at], 2) for at in range(many - 1)], reference_width=2)


def doubling(many, leaf=NONE):
    """A file of lists of twice the next one, around a leaf."""
    return built([leaf] + [array([at, at], 2) for at in range(many - 1)], reference_width=2)
