"""What stands where a path leads."""

from nestfile.errors import Large
from nestfile.files import find, with_top
from nestfile.rows import key_links, part_links
from nestfile.values import MOST_DEPTH, MOST_PARTS, Data, Date, Real, Uid, Wide


def _leaf(row):
    """Return the part with a row that has no items or members."""
    kind, worth, _ = row
    if kind == "string" and not isinstance(worth, str):
        return Wide(worth)
    if kind == "data":
        return Data(worth)
    if kind == "uid":
        return Uid(worth)
    if kind == "real":
        return Real(worth)
    if kind == "date":
        return Date(worth)
    return worth


def _grown(rows, number, leaves):
    """Return the part with a row, in which all lists and dictionaries are new.

    It is at most 100 deep. `leaves` keeps what was made before for a row
    without items and members, for a long one may stand at thousands of places.
    """
    row = rows[number]
    if row[0] == "list":
        return [_grown(rows, link, leaves) for link in row[2]]
    if row[0] == "dictionary":
        return {rows[key][1]: _grown(rows, link, leaves) for key, link in zip(key_links(row), part_links(row))}
    if number not in leaves:
        leaves[number] = _leaf(row)
    return leaves[number]


def part(nest, path, *, most=MOST_PARTS):
    """Return the part to which a path leads."""
    number = nest.web.owners[find(nest, path)]
    if nest.web.depths[number] > MOST_DEPTH:
        raise Large("depth")
    if nest.web.counts[number] > most:
        raise Large("parts")
    return _grown(nest.web.rows, number, {})


def steps(nest, path):
    """List the steps that can be taken from where a path leads."""
    number = find(nest, path)
    if nest.objects.kinds[number] == "list":
        return list(range(len(nest.objects.references[number])))
    return sorted(nest.objects.members.get(number, {}))


def inner(nest, path):
    """Return the nest whose value is the part to which a path leads."""
    return with_top(nest, find(nest, path))
