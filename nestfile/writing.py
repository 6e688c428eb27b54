"""The shortest file of a value, and where the bytes of a longer one go."""

from nestfile.errors import Large
from nestfile.layout import HEADER, MOST_OBJECTS, Layout
from nestfile.packing import head, packed
from nestfile.rows import add_value, shape_of
from nestfile.shapes import reached
from nestfile.values import check


class Account:
    """Where the bytes go that `shrink` saves."""

    def __init__(self, gaps, unused, twice, wide, references, table):
        self.gaps = gaps
        self.unused = unused
        self.twice = twice
        self.wide = wide
        self.references = references
        self.table = table

    def __eq__(self, other):
        return (isinstance(other, Account) and self.gaps == other.gaps and self.unused == other.unused
                and self.twice == other.twice and self.wide == other.wide
                and self.references == other.references and self.table == other.table)


def write(value):
    """Return the shortest file of a value."""
    check(value)
    numbers = {}
    top = add_value(numbers, value)
    if len(numbers) > MOST_OBJECTS:
        raise Large("objects")
    return packed(shape_of(list(numbers), top))


def shrink(nest):
    """Return the shortest file of the value of a nest."""
    return packed(nest.shape)


def _divided(nest):
    """Divide the objects: list the unused ones, those alike a used one before them, and all others."""
    met = reached(nest.nodes, nest.layout.root)
    seen = [False] * len(nest.web.rows)
    spare = []
    repeated = []
    kept = []
    for number, node in enumerate(nest.nodes):
        owner = nest.web.owners[number]
        if not met[number]:
            spare.append(node)
        elif seen[owner]:
            repeated.append(node)
        else:
            seen[owner] = True
            kept.append(node)
    return spare, repeated, kept


def _length(nodes):
    return sum([node.length for node in nodes])


def account(nest):
    """Tell where the bytes go that `shrink` saves."""
    layout = nest.layout
    shrunk = Layout(shrink(nest))
    spare, repeated, kept = _divided(nest)
    links = sum([len(node.references) for node in kept])
    heads = sum([len(head(row)) for row in nest.shape])
    return Account(
        gaps=layout.table - len(HEADER) - _length(nest.nodes),
        unused=_length(spare),
        twice=_length(repeated),
        wide=_length(kept) - heads - links * layout.reference_width,
        references=links * (layout.reference_width - shrunk.reference_width),
        table=layout.count * layout.offset_width - shrunk.count * shrunk.offset_width)
