"""The shortest file of a value, and where the bytes of a longer one go."""

from nestfile.errors import Large
from nestfile.layout import HEADER, MOST_OBJECTS, Layout
from nestfile.packing import head, packed
from nestfile.rows import Table, add_value, shape_of
from nestfile.shapes import reached
from nestfile.values import check


class Account:
    """Where the bytes go that `shrink` saves."""

    def __init__(self, gaps, unused, twice, wide, references, table):
        self.gaps = gaps
        self.unused = unused
        self.twice = twice
        self.wide = wide
        self.references = references
        self.table = table

    def __eq__(self, other):
        return (isinstance(other, Account) and self.gaps == other.gaps and self.unused == other.unused
                and self.twice == other.twice and self.wide == other.wide
                and self.references == other.references and self.table == other.table)


def written(rows, top):
    """Return the shortest file of the part with the top one of these rows."""
    shape = shape_of(rows, top)
    if len(shape) > MOST_OBJECTS:
        raise Large("objects")
    return packed(shape)


def write(value):
    """Return the shortest file of a value."""
    check(value)
    table = Table({})
    top = add_value(table, value)
    return written(table.listed(), top)


def shrink(nest):
    """Return the shortest file of the value of a nest."""
    return written(nest.web.rows, nest.top_row)


def _divided(nest):
    """Divide the objects: list the unused ones, those alike a used one before them, and all others."""
    met = reached(nest.objects.references, nest.layout.root)
    seen = [False] * len(nest.web.rows)
    spare = []
    repeated = []
    kept = []
    for number, owner in enumerate(nest.web.owners):
        if not met[number]:
            spare.append(number)
        elif seen[owner]:
            repeated.append(number)
        else:
            seen[owner] = True
            kept.append(number)
    return spare, repeated, kept


def account(nest):
    """Tell where the bytes go that `shrink` saves."""
    layout = nest.layout
    shape = shape_of(nest.web.rows, nest.top_row)
    shrunk = Layout(packed(shape))
    spare, repeated, kept = _divided(nest)
    lengths = [end - place for place, end in zip(nest.objects.places, nest.objects.ends)]
    links = sum([len(nest.objects.references[number]) for number in kept])
    heads = sum([len(head(row)) for row in shape])
    return Account(
        gaps=layout.table - len(HEADER) - sum(lengths),
        unused=sum([lengths[number] for number in spare]),
        twice=sum([lengths[number] for number in repeated]),
        wide=sum([lengths[number] for number in kept]) - heads - links * layout.reference_width,
        references=links * (layout.reference_width - shrunk.reference_width),
        table=layout.count * layout.offset_width - shrunk.count * shrunk.offset_width)
