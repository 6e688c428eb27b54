"""The frame of a file: its header, its trailer and its offset table."""

from nestfile.errors import NoBytes, Torn
from nestfile.values import GREATEST_BYTE, are_between, is_between

HEADER = (98, 112, 108, 105, 115, 116, 48, 48)
TRAILER_LENGTH = 32
# Where in the trailer the number of the top object stands.
TOP_PLACE = 16
SHORTEST_FILE = 42
MOST_OBJECTS = 10000


class Layout:
    """The bytes of a file, and what its trailer says of them."""

    def __init__(self, data):
        trailer = len(data) - TRAILER_LENGTH
        self.data = tuple(data)
        self.trailer = trailer
        self.offset_width = data[trailer + 6]
        self.reference_width = data[trailer + 7]
        self.count = number_at(data, trailer + 8, 8)
        self.root = number_at(data, trailer + TOP_PLACE, 8)
        self.table = number_at(data, trailer + 24, 8)


def number_at(data, place, width):
    """Read a number of several bytes, the most significant one first."""
    number = 0
    for octet in data[place:place + width]:
        number = number * 256 + octet
    return number


def numbers_between(data, begin, end, width):
    """Read all numbers of so many bytes that stand side by side between two places."""
    numbers = data[begin:end:width]
    for at in range(begin + 1, begin + width):
        numbers = [number * 256 + octet for number, octet in zip(numbers, data[at:end:width])]
    return list(numbers)


def number_octets(number, width):
    """Write a number in so many bytes, the most significant one first; a negative one in two's complement."""
    if width == 1:
        return [number & GREATEST_BYTE]
    return [(number >> (8 * at)) & GREATEST_BYTE for at in reversed(range(width))]


def numbers_octets(numbers, width):
    """Write numbers from 0 on side by side, each in so many bytes."""
    if width == 1:
        return list(numbers)
    if width == 2:
        return [octet for number in numbers for octet in (number >> 8, number & GREATEST_BYTE)]
    shifts = [8 * at for at in reversed(range(width))]
    return [(number >> shift) & GREATEST_BYTE for number in numbers for shift in shifts]


def least_width(number):
    """Return the smallest number of bytes that holds a number from 0 on, at least 1."""
    return max(1, (number.bit_length() + 7) // 8)


def check_bytes(data):
    """Raise NoBytes for the first element that is not a byte."""
    if are_between(data, 0, GREATEST_BYTE):
        return
    for place, octet in enumerate(data):
        if not is_between(octet, 0, GREATEST_BYTE):
            raise NoBytes(place)


def _check_trailer(layout):
    begin = layout.trailer
    for place in range(begin, begin + 6):
        if layout.data[place] != 0:
            raise Torn("unused", place)
    if not 1 <= layout.offset_width <= 8:
        raise Torn("offsets", begin + 6)
    if not 1 <= layout.reference_width <= 8:
        raise Torn("references", begin + 7)
    if not 1 <= layout.count <= MOST_OBJECTS:
        raise Torn("count", begin + 8)
    if layout.root >= layout.count:
        raise Torn("top", begin + TOP_PLACE)
    end = layout.table + layout.count * layout.offset_width
    if layout.table <= len(HEADER) or end != begin:
        raise Torn("table", begin + 24)


def read_layout(data):
    """Check the header and the trailer of a file, which is made of bytes."""
    if len(data) < SHORTEST_FILE:
        raise Torn("short", len(data))
    for place, octet in enumerate(HEADER):
        if data[place] != octet:
            raise Torn("header", place)
    layout = Layout(data)
    _check_trailer(layout)
    return layout


def read_places(layout):
    """List the places of all objects, as the offset table tells them."""
    low = len(HEADER)
    high = layout.table - 1
    places = numbers_between(layout.data, layout.table, layout.trailer, layout.offset_width)
    if min(places) < low or max(places) > high:
        wrong = [is_between(place, low, high) for place in places].index(False)
        raise Torn("offset", layout.table + wrong * layout.offset_width)
    return places
