"""The objects of a file: where they stand and what they say."""

from nestfile.errors import Torn
from nestfile.layout import number_at, numbers_between, read_places
from nestfile.values import HIGHEST, LOWEST, are_plain_numbers

# Markers of the objects that always have the same number of bytes behind them.
FIXED = {
    0x00: ("none", 0),
    0x08: ("truth", 0),
    0x09: ("truth", 0),
    0x10: ("integer", 1),
    0x11: ("integer", 2),
    0x12: ("integer", 4),
    0x13: ("integer", 8),
    0x14: ("integer", 16),
    0x22: ("real", 4),
    0x23: ("real", 8),
    0x33: ("date", 8),
}
# First digits of the markers whose second digit tells a size.
SIZED = {0x4: "data", 0x5: "string", 0x6: "string", 0xA: "list", 0xD: "dictionary"}
HOLDERS = ("list", "dictionary")
UID_DIGIT = 0x8
NARROW_DIGIT = 0x5
BROAD_DIGIT = 0x6
TRUE_MARKER = 0x09
SIZE_FOLLOWS = 15
# Numbers of more bytes than this may be out of range.
SURE_WIDTH = 8
# The characters from number 32 to 126. A line feed stands in the place of the percent sign, which is not plain.
PLAIN = " !\"#$\n&'()*+,-./0123456789:;<=>?@ABCDEFGHIJKLMNOPQRSTUVWXYZ[\\]^_`abcdefghijklmnopqrstuvwxyz{|}~"
# The character of each byte: a line feed for one that is not plain, a tab for one that no 0x5n string may have.
SIGNS = "\n" * 32 + PLAIN + "\n" + "\t" * 128
NOT_PLAIN = "\n"
FAULT = "\t"


class Objects:
    """The objects of a file as they were read, each at the place of its number.

    An object has a kind, the place of its marker, the place behind its last
    byte, its references in the order of the file, and a worth: what it says
    without references, which is nothing, a truth, a number, a string, or the
    numbers of its bytes or characters. `members` leads from the number of each
    dictionary to a dict of its keys, in the order of the file, and the numbers
    of their values.
    """

    def __init__(self, spans):
        self.kinds = tuple(spans.kinds)
        self.places = tuple(spans.places)
        self.ends = tuple(spans.ends)
        self.references = tuple(_references(spans))
        self.worths = tuple(_worths(spans))
        self.members = _members(spans, self.references, self.worths)


class Spans:
    """The bytes of all objects: where their markers stand, and where their content begins and ends.

    While they are measured and checked one after the other, objects may still
    stand over each other, so that thousands of them share the same thousands
    of bytes. So tables tell for each place of the file what begins there; they
    are made when they are first needed. `signs` is the text of 0x5n strings,
    `numbers` are the references, and `marks` tells which of these are faults.
    """

    def __init__(self, layout):
        self.layout = layout
        self.places = read_places(layout)
        self.kinds = []
        self.begins = []
        self.ends = []
        self.signs = ""
        self.numbers = ()
        self.marks = ""


def _read_signs(spans):
    if spans.signs == "":
        spans.signs = "".join([SIGNS[octet] for octet in spans.layout.data[:spans.layout.table]])


def _read_numbers(spans):
    if spans.marks == "":
        layout = spans.layout
        numbers = layout.data[:layout.table]
        for at in range(1, layout.reference_width):
            numbers = [number * 256 + octet for number, octet in zip(numbers, layout.data[at:layout.table])]
        spans.numbers = tuple(numbers)
        spans.marks = "".join([FAULT if number >= layout.count else " " for number in numbers])


def _integer_at(data, place, width):
    number = number_at(data, place, width)
    if width >= 8 and data[place] >= 128:
        return number - (1 << (8 * width))
    return number


def _read_size(layout, place):
    """Return how many bytes of an object stand before its content, and its size."""
    at = place + 1
    if at >= layout.table:
        raise Torn("end", place)
    kind, width = FIXED.get(layout.data[at], ("none", 0))
    if kind != "integer":
        raise Torn("size", at)
    if at + 1 + width > layout.table:
        raise Torn("end", place)
    size = _integer_at(layout.data, at + 1, width)
    if size < 0:
        raise Torn("size", at)
    return 2 + width, size


def _unit(layout, digit):
    """Return the number of bytes that each step of a size stands for."""
    if digit == BROAD_DIGIT:
        return 2
    if digit == 0xA:
        return layout.reference_width
    if digit == 0xD:
        return 2 * layout.reference_width
    return 1


def _widths(layout, place):
    """Return the kind of the object at a place, and how many bytes stand before its content and in it."""
    marker = layout.data[place]
    digit = marker >> 4
    if marker in FIXED:
        kind, width = FIXED[marker]
        return kind, 1, width
    if digit == UID_DIGIT:
        return "uid", 1, 1 + (marker & 15)
    if digit not in SIZED:
        raise Torn("marker", place)
    skipped = 1
    size = marker & 15
    if size == SIZE_FOLLOWS:
        skipped, size = _read_size(layout, place)
    return SIZED[digit], skipped, size * _unit(layout, digit)


def _check_range(layout, kind, place, width):
    if kind == "integer" and not LOWEST <= _integer_at(layout.data, place + 1, width) <= HIGHEST:
        raise Torn("range", place)
    if kind == "uid" and number_at(layout.data, place + 1, width) > HIGHEST:
        raise Torn("range", place)


def _measured(spans, place):
    """Return what `_widths` returns, and a text with a fault's mark where each step of the content must have none."""
    layout = spans.layout
    kind, skipped, width = _widths(layout, place)
    if place + skipped + width > layout.table:
        raise Torn("end", place)
    _check_range(layout, kind, place, width)
    if kind in HOLDERS:
        _read_numbers(spans)
        return kind, skipped, width, spans.marks, layout.reference_width
    if layout.data[place] >> 4 == NARROW_DIGIT:
        _read_signs(spans)
        return kind, skipped, width, spans.signs, 1
    return kind, skipped, width, "", 1


def _is_settled(marker, kind, width):
    """Tell whether all objects with this marker have the same number of bytes and a number in range."""
    if marker >> 4 in SIZED:
        return marker & 15 != SIZE_FOLLOWS
    return kind not in ("integer", "uid") or width <= SURE_WIDTH


def _read_spans(layout):
    """Measure and check all objects, one after the other."""
    spans = Spans(layout)
    # What is known of objects by their markers: asked for each alone, thousands of small ones would take long.
    known = {}
    for place in spans.places:
        marker = layout.data[place]
        if marker in known:
            kind, skipped, width, marks, step = known[marker]
        else:
            kind, skipped, width, marks, step = _measured(spans, place)
            if _is_settled(marker, kind, width):
                known[marker] = (kind, skipped, width, marks, step)
        begin = place + skipped
        end = begin + width
        if end > layout.table:
            raise Torn("end", place)
        if FAULT in marks[begin:end:step]:
            word = "ascii" if kind == "string" else "reference"
            raise Torn(word, begin + step * marks[begin:end:step].index(FAULT))
        spans.kinds.append(kind)
        spans.begins.append(begin)
        spans.ends.append(end)
    return spans


def _check_overlap(spans):
    # Where one begins before all that begin before it have ended, two share a byte.
    begins = sorted(spans.places)
    ends = sorted(spans.ends)
    shared = [begin for begin, end in zip(begins[1:], ends) if begin < end]
    if shared:
        raise Torn("overlap", shared[0])


def _references(spans):
    """List the references of each object."""
    width = spans.layout.reference_width
    numbers = spans.numbers
    spread = zip(spans.kinds, spans.begins, spans.ends)
    return [numbers[begin:end:width] if kind in HOLDERS else () for kind, begin, end in spread]


def _string(spans, place, begin, end):
    """Read a string if all characters are plain, and otherwise their numbers."""
    data = spans.layout.data
    if data[place] >> 4 == NARROW_DIGIT:
        text = spans.signs[begin:end]
        return data[begin:end] if NOT_PLAIN in text else text
    units = numbers_between(data, begin, end, 2)
    if are_plain_numbers(units):
        return "".join([SIGNS[unit] for unit in units])
    return tuple(units)


def _worths(spans):
    """List what the objects say; lists and dictionaries say nothing but their references."""
    data = spans.layout.data
    worths = []
    for kind, place, begin, end in zip(spans.kinds, spans.places, spans.begins, spans.ends):
        if kind in ("list", "dictionary", "none"):
            worths.append(None)
        elif kind == "truth":
            worths.append(data[place] == TRUE_MARKER)
        elif kind == "integer":
            worths.append(_integer_at(data, begin, end - begin))
        elif kind == "string":
            worths.append(_string(spans, place, begin, end))
        elif kind == "uid":
            worths.append(number_at(data, begin, end - begin))
        else:
            worths.append(data[begin:end])
    return worths


def _check_labels(labels, begin, width):
    """Raise Torn for the first of the keys of a dictionary that is no string, or an earlier one again."""
    met = {}
    for at, label in enumerate(labels):
        if not isinstance(label, str):
            raise Torn("key", begin + at * width)
        if label in met:
            raise Torn("twice", begin + at * width)
        met[label] = True


def _members(spans, references, worths):
    """Return the keys of all dictionaries and the numbers of their values."""
    members = {}
    for number, kind in enumerate(spans.kinds):
        if kind == "dictionary":
            links = references[number]
            many = len(links) // 2
            labels = [worths[link] for link in links[:many]]
            _check_labels(labels, spans.begins[number], spans.layout.reference_width)
            members[number] = dict(zip(labels, links[many:]))
    return members


def read_objects(layout):
    """Read all objects, of which none stands over another one."""
    spans = _read_spans(layout)
    _check_overlap(spans)
    return Objects(spans)
