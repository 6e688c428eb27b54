"""The objects of a file: where they stand and what they say."""

from nestfile.errors import Torn
from nestfile.layout import number_at, read_places
from nestfile.values import HIGHEST, LOWEST, is_plain_number

# Markers of the objects that always have the same number of bytes behind them.
FIXED = {
    0x00: ("none", 0),
    0x08: ("truth", 0),
    0x09: ("truth", 0),
    0x10: ("integer", 1),
    0x11: ("integer", 2),
    0x12: ("integer", 4),
    0x13: ("integer", 8),
    0x14: ("integer", 16),
    0x22: ("real", 4),
    0x23: ("real", 8),
    0x33: ("date", 8),
}
# First digits of the markers whose second digit tells a size.
SIZED = {0x4: "data", 0x5: "string", 0x6: "string", 0xA: "list", 0xD: "dictionary"}
UID_DIGIT = 0x8
NARROW_DIGIT = 0x5
TRUE_MARKER = 0x09
SIZE_FOLLOWS = 15
# The characters from number 32 on. The sixth one only keeps the place of the
# percent sign, which is not plain.
PLAIN = " !\"#$ &'()*+,-./0123456789:;<=>?@ABCDEFGHIJKLMNOPQRSTUVWXYZ[\\]^_`abcdefghijklmnopqrstuvwxyz{|}~"


class Span:
    """The bytes of an object: its marker, the begin of its content, and what is behind it."""

    def __init__(self, kind, place, start, end):
        self.kind = kind
        self.place = place
        self.start = start
        self.end = end


class Node:
    """An object as it was read.

    `worth` is what a part without references says: nothing, a truth, a number,
    a string, or the numbers of its bytes or characters. `labels` are the keys
    of a dictionary in the order of the file, and `members` leads from each key
    to the number of its value.
    """

    def __init__(self, span, worth, references, labels):
        self.kind = span.kind
        self.place = span.place
        self.length = span.end - span.place
        self.worth = worth
        self.references = tuple(references)
        self.labels = tuple(labels)
        self.members = {label: references[len(labels) + at] for at, label in enumerate(labels)}


def _integer_at(data, place, width):
    number = number_at(data, place, width)
    if width >= 8 and data[place] >= 128:
        return number - (1 << (8 * width))
    return number


def _read_size(layout, place):
    """Return where the content of an object begins, and its size."""
    size = layout.data[place] & 15
    if size < SIZE_FOLLOWS:
        return place + 1, size
    at = place + 1
    if at >= layout.table:
        raise Torn("end", place)
    kind, width = FIXED.get(layout.data[at], ("none", 0))
    if kind != "integer":
        raise Torn("size", at)
    if at + 1 + width > layout.table:
        raise Torn("end", place)
    size = _integer_at(layout.data, at + 1, width)
    if size < 0:
        raise Torn("size", at)
    return at + 1 + width, size


def _unit(layout, digit):
    """Return the number of bytes that each step of a size stands for."""
    if digit == 0x6:
        return 2
    if digit == 0xA:
        return layout.reference_width
    if digit == 0xD:
        return 2 * layout.reference_width
    return 1


def _measure(layout, place):
    """Find the bytes of the object that begins at a place."""
    marker = layout.data[place]
    digit = marker >> 4
    if marker in FIXED:
        kind, width = FIXED[marker]
        span = Span(kind, place, place + 1, place + 1 + width)
    elif digit == UID_DIGIT:
        span = Span("uid", place, place + 1, place + 2 + (marker & 15))
    elif digit in SIZED:
        start, size = _read_size(layout, place)
        span = Span(SIZED[digit], place, start, start + size * _unit(layout, digit))
    else:
        raise Torn("marker", place)
    if span.end > layout.table:
        raise Torn("end", place)
    return span


def _first_wrong(layout, width, limit):
    """For each place, find the first one from there on, in steps of a width, where a number reaches a limit.

    Objects may still overlap when they are checked, so that thousands of them
    share the same thousands of bytes: with this table each is checked at once.
    """
    table = layout.table
    found = [table] * (table + width)
    number = 0
    for place in reversed(range(table)):
        number = (number >> 8) | (layout.data[place] << (8 * (width - 1)))
        found[place] = place if number >= limit else found[place + width]
    return found


def _check_content(layout, span, signs, references):
    """Check one object; `signs` and `references` are tables of `_first_wrong`."""
    if span.kind in ("integer", "uid") and not LOWEST <= _worth(layout, span) <= HIGHEST:
        raise Torn("range", span.place)
    if layout.data[span.place] >> 4 == NARROW_DIGIT and signs[span.start] < span.end:
        raise Torn("ascii", signs[span.start])
    if span.kind in ("list", "dictionary") and references[span.start] < span.end:
        raise Torn("reference", references[span.start])


def _read_spans(layout):
    places = read_places(layout)
    signs = _first_wrong(layout, 1, 128)
    references = _first_wrong(layout, layout.reference_width, layout.count)
    spans = []
    for place in places:
        span = _measure(layout, place)
        _check_content(layout, span, signs, references)
        spans.append(span)
    return spans


def _check_overlap(spans):
    end = 0
    for place, behind in sorted([(span.place, span.end) for span in spans]):
        if place < end:
            raise Torn("overlap", place)
        end = behind


def _text(units):
    """Return a string if all characters are plain, and otherwise their numbers."""
    if all([is_plain_number(unit) for unit in units]):
        return "".join([PLAIN[unit - 32] for unit in units])
    return tuple(units)


def _worth(layout, span):
    """Read what an object says; lists and dictionaries say nothing but their references."""
    data = layout.data
    width = span.end - span.start
    if span.kind == "truth":
        return data[span.place] == TRUE_MARKER
    if span.kind == "integer":
        return _integer_at(data, span.start, width)
    if span.kind == "uid":
        return number_at(data, span.start, width)
    if span.kind in ("real", "date", "data"):
        return data[span.start:span.end]
    if data[span.place] >> 4 == NARROW_DIGIT:
        return _text(data[span.start:span.end])
    if span.kind == "string":
        return _text([number_at(data, at, 2) for at in range(span.start, span.end, 2)])
    return None


def _references(layout, span):
    if span.kind not in ("list", "dictionary"):
        return []
    width = layout.reference_width
    return [number_at(layout.data, at, width) for at in range(span.start, span.end, width)]


def _labels(layout, span, references, worths):
    """List the keys of a dictionary, in the order of the file."""
    if span.kind != "dictionary":
        return []
    labels = {}
    for at in range(len(references) // 2):
        place = span.start + at * layout.reference_width
        label = worths[references[at]]
        if not isinstance(label, str):
            raise Torn("key", place)
        if label in labels:
            raise Torn("twice", place)
        labels[label] = True
    return list(labels)


def read_nodes(layout):
    """Read all objects, of which none stands over another one."""
    spans = _read_spans(layout)
    _check_overlap(spans)
    worths = [_worth(layout, span) for span in spans]
    nodes = []
    for number, span in enumerate(spans):
        references = _references(layout, span)
        labels = _labels(layout, span, references, worths)
        nodes.append(Node(span, worths[number], references, labels))
    return nodes
