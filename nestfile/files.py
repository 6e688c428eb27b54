"""Files that were read, and what can be asked of them."""

from nestfile.errors import NoPart
from nestfile.layout import HEADER, TOP_PLACE, Layout, check_bytes, number_octets, read_layout
from nestfile.objects import read_nodes
from nestfile.rows import shape_of
from nestfile.shapes import Web, check_rings, leaves_first, reached
from nestfile.values import is_integer


class Entry:
    """One object of a file, as the file lists it."""

    def __init__(self, kind, place, length, references):
        self.kind = kind
        self.place = place
        self.length = length
        self.references = tuple(references)

    def __eq__(self, other):
        return (isinstance(other, Entry) and self.kind == other.kind and self.place == other.place
                and self.length == other.length and self.references == other.references)


class Nest:
    """A file that was read; `read` makes it. Equal shapes mean equal values."""

    def __init__(self, layout, nodes, web):
        self.layout = layout
        self.nodes = tuple(nodes)
        self.web = web
        self.top_row = web.owners[layout.root]
        self.shape = shape_of(web.rows, self.top_row)

    def __len__(self):
        return len(self.nodes)

    def __eq__(self, other):
        return isinstance(other, Nest) and self.shape == other.shape

    def __contains__(self, path):
        return _walk(self, path)[1] == len(path)


def _follow(node, step):
    """Return the number to which one step leads, or None if it cannot be taken."""
    if node.kind == "list" and is_integer(step) and 0 <= step < len(node.references):
        return node.references[step]
    if isinstance(step, str) and step in node.members:
        return node.members[step]
    return None


def _walk(nest, path):
    """Return the number to which the steps lead that can be taken, and how many these are."""
    number = nest.layout.root
    for taken, step in enumerate(path):
        following = _follow(nest.nodes[number], step)
        if following is None:
            return number, taken
        number = following
    return number, len(path)


def read(data):
    """Check a file and return its nest."""
    check_bytes(data)
    layout = read_layout(data)
    nodes = read_nodes(layout)
    order = leaves_first(nodes)
    check_rings(nodes, order)
    return Nest(layout, nodes, Web(nodes, order))


def with_top(nest, number):
    """Return the nest of the same file with another top object."""
    data = list(nest.layout.data)
    place = nest.layout.trailer + TOP_PLACE
    data[place:place + 8] = number_octets(number, 8)
    # Whichever object is the top one, a file without faults has none.
    return Nest(Layout(data), nest.nodes, nest.web)


def octets(nest):
    """Return the bytes of the file."""
    return list(nest.layout.data)


def entries(nest):
    """List the objects of the file in the order of their numbers."""
    return [Entry(node.kind, node.place, node.length, node.references) for node in nest.nodes]


def top(nest):
    """Return the number of the top object."""
    return nest.layout.root


def unused(nest):
    """List the numbers of the objects to which nothing leads from the top one."""
    met = reached(nest.nodes, nest.layout.root)
    return [number for number, used in enumerate(met) if not used]


def gaps(nest):
    """List the stretches (begin, end) of bytes before the offset table that belong to no object."""
    table = nest.layout.table
    taken = sorted([(node.place, node.place + node.length) for node in nest.nodes])
    found = []
    end = len(HEADER)
    for place, behind in taken + [(table, table)]:
        if place > end:
            found.append((end, place))
        end = behind
    return found


def find(nest, path):
    """Return the number of the object to which a path leads."""
    number, taken = _walk(nest, path)
    if taken < len(path):
        raise NoPart(taken)
    return number
