"""Files that were read, and what can be asked of them."""

from nestfile.errors import NoPart
from nestfile.layout import HEADER, TOP_PLACE, Layout, check_bytes, number_octets, read_layout
from nestfile.objects import read_objects
from nestfile.rows import images_of
from nestfile.shapes import Web, reached
from nestfile.values import is_between


class Entry:
    """One object of a file, as the file lists it."""

    def __init__(self, kind, place, length, references):
        self.kind = kind
        self.place = place
        self.length = length
        self.references = tuple(references)

    def __eq__(self, other):
        return (isinstance(other, Entry) and self.kind == other.kind and self.place == other.place
                and self.length == other.length and self.references == other.references)


class Nest:
    """A file that was read; `read` makes it."""

    def __init__(self, layout, objects, web):
        self.layout = layout
        self.objects = objects
        self.web = web
        self.top_row = web.owners[layout.root]

    def __len__(self):
        return len(self.objects.kinds)

    def __eq__(self, other):
        return isinstance(other, Nest) and _are_equal(self, other)

    def __contains__(self, path):
        return _walk(self, path)[1] == len(path)


def _are_equal(nest, other):
    """Tell whether the values of two nests are alike."""
    # Most that are unequal have another number of parts, which takes no time to see.
    if nest.web.counts[nest.top_row] != other.web.counts[other.top_row]:
        return False
    rows = other.web.rows[:other.top_row + 1]
    if rows == nest.web.rows[:nest.top_row + 1]:
        return True
    return images_of(nest.web.numbers, rows)[other.top_row] == nest.top_row


def _follow(objects, number, step):
    """Return the number to which one step leads, or None if it cannot be taken."""
    kind = objects.kinds[number]
    links = objects.references[number]
    if kind == "list" and is_between(step, 0, len(links) - 1):
        return links[step]
    if kind == "dictionary" and isinstance(step, str):
        return objects.members[number].get(step)
    return None


def _walk(nest, path):
    """Return the number to which the steps lead that can be taken, and how many these are."""
    number = nest.layout.root
    for taken, step in enumerate(path):
        following = _follow(nest.objects, number, step)
        if following is None:
            return number, taken
        number = following
    return number, len(path)


def read(data):
    """Check a file and return its nest."""
    check_bytes(data)
    layout = read_layout(data)
    objects = read_objects(layout)
    return Nest(layout, objects, Web(objects, layout.root))


def with_top(nest, number):
    """Return the nest of the same file with another top object."""
    data = list(nest.layout.data)
    place = nest.layout.trailer + TOP_PLACE
    data[place:place + 8] = number_octets(number, 8)
    # Whichever object is the top one, a file without faults has none.
    return Nest(Layout(data), nest.objects, nest.web)


def octets(nest):
    """Return the bytes of the file."""
    return list(nest.layout.data)


def entries(nest):
    """List the objects of the file in the order of their numbers."""
    objects = nest.objects
    spread = zip(objects.kinds, objects.places, objects.ends, objects.references)
    return [Entry(kind, place, end - place, links) for kind, place, end, links in spread]


def top(nest):
    """Return the number of the top object."""
    return nest.layout.root


def unused(nest):
    """List the numbers of the objects to which nothing leads from the top one."""
    met = reached(nest.objects.references, nest.layout.root)
    return [number for number, used in enumerate(met) if not used]


def gaps(nest):
    """List the stretches (begin, end) of bytes before the offset table that belong to no object."""
    table = nest.layout.table
    taken = sorted(zip(nest.objects.places, nest.objects.ends))
    found = []
    end = len(HEADER)
    for place, behind in taken + [(table, table)]:
        if place > end:
            found.append((end, place))
        end = behind
    return found


def find(nest, path):
    """Return the number of the object to which a path leads."""
    number, taken = _walk(nest, path)
    if taken < len(path):
        raise NoPart(taken)
    return number
