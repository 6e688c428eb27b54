"""Changed values: their shortest files, without writing the values out.

An edit puts the rows of what is new into a table behind those of the file,
and then new rows for all that holds it, up to the top one. The other rows stay
as they are, and so do other places that share an object.
"""

from nestfile.errors import BadCount, Large, NoFit, NoObject, NoPart, NoValue
from nestfile.files import find, octets, read
from nestfile.layout import MOST_OBJECTS
from nestfile.packing import head
from nestfile.rows import Table, add_value, key_links, leaf_row, part_links, place_among
from nestfile.shapes import used_rows
from nestfile.values import are_plain, check, is_between
from nestfile.webs import row_of
from nestfile.writing import shrink, written

MOST_NESTS = 100


def _trail(nest, path):
    """List for each step of a path the number of the row that it leaves, and the place to which it leads there."""
    # A path that cannot be taken raises its error here.
    find(nest, path)
    rows = nest.web.rows
    number = nest.top_row
    trail = []
    for step in path:
        at = place_among(rows, rows[number], step)
        trail.append((number, at))
        number = part_links(rows[number])[at]
    return trail


def _with_links(row, links):
    """Return the row of a part with other items, or with other values for the same keys."""
    kind, worth, _ = row
    return kind, worth, key_links(row) + links


def _without_link(row, at):
    """Return the row of a part without its item or member at a place."""
    kind, worth, _ = row
    keys = key_links(row)
    links = part_links(row)
    return kind, worth, keys[:at] + keys[at + 1:] + links[:at] + links[at + 1:]


def _with_more(row, at, key, number):
    """Return the row of a part with one more item or member at a place; `key` holds the number of its key, if any."""
    kind, worth, _ = row
    keys = key_links(row)
    links = part_links(row)
    return kind, worth, keys[:at] + key + keys[at:] + links[:at] + (number,) + links[at:]


def _file(nest, table, trail, number):
    """Return the file of the value in which the part with a row stands where a trail ends."""
    for holder, at in reversed(trail):
        row = nest.web.rows[holder]
        links = part_links(row)
        number = table.number_of(_with_links(row, links[:at] + (number,) + links[at + 1:]))
    return written(table.listed(), number)


def replaced(nest, path, value):
    """Put a value in the place of a part."""
    trail = _trail(nest, path)
    check(value)
    table = Table(nest.web.numbers)
    return _file(nest, table, trail, add_value(table, value))


def removed(nest, path):
    """Remove an item or a member."""
    if len(path) == 0:
        raise NoPart(0)
    trail = _trail(nest, path)
    holder, at = trail.pop()
    table = Table(nest.web.numbers)
    number = table.number_of(_without_link(nest.web.rows[holder], at))
    return _file(nest, table, trail, number)


def _new_place(rows, row, step):
    """Return the place that a new item or member has among all of a row, or None if the step leads to none."""
    if row[0] == "list" and is_between(step, 0, len(row[2])):
        return step
    if row[0] == "dictionary" and isinstance(step, str) and are_plain([step]):
        labels = [rows[link][1] for link in key_links(row)]
        if step not in labels:
            return len([label for label in labels if label < step])
    return None


def inserted(nest, path, value):
    """Insert an item before another one or at the end of a list, or add a member with a new key."""
    if len(path) == 0:
        raise NoPart(0)
    holder = nest.web.owners[find(nest, path[:-1])]
    row = nest.web.rows[holder]
    at = _new_place(nest.web.rows, row, path[-1])
    if at is None:
        raise NoPart(len(path) - 1)
    check(value)
    table = Table(nest.web.numbers)
    number = add_value(table, value)
    key = (table.number_of(leaf_row(path[-1])),) if row[0] == "dictionary" else ()
    return _file(nest, table, _trail(nest, path[:-1]), table.number_of(_with_more(row, at, key, number)))


def swapped(nest, old, new):
    """Put a new value in the place of every part that is alike an old one."""
    target = row_of(nest, old)
    check(new)
    if target is None:
        return shrink(nest)
    table = Table(nest.web.numbers)
    # What stands for each part; parts of the new value are not asked for, so they stay.
    images = list(range(nest.top_row + 1))
    images[target] = add_value(table, new)
    for number in range(target + 1, nest.top_row + 1):
        row = nest.web.rows[number]
        links = tuple([images[link] for link in part_links(row)])
        if links != part_links(row):
            images[number] = table.number_of(_with_links(row, links))
    return written(table.listed(), images[nest.top_row])


def _added(table, nest):
    """Put the rows of the value of a nest into a table, and return the number of its own one."""
    images = [0] * (nest.top_row + 1)
    for number in used_rows(nest.web, nest.top_row):
        kind, worth, links = nest.web.rows[number]
        images[number] = table.number_of((kind, worth, tuple([images[link] for link in links])))
    return images[nest.top_row]


def joined(nests):
    """Return the file of the list of the values of nests."""
    if len(nests) > MOST_NESTS:
        raise BadCount("nests", len(nests))
    table = Table({})
    met = {}
    tops = []
    for nest in nests:
        # One nest may be joined a hundred times.
        name = (nest.web, nest.top_row)
        if name not in met:
            met[name] = _added(table, nest)
        tops.append(met[name])
        # All these rows and that of the list itself make up the value.
        if len(table.fresh) >= MOST_OBJECTS:
            raise Large("objects")
    number = table.number_of(("list", None, tuple(tops)))
    return written(table.listed(), number)


def patched(nest, number, value):
    """Write a value over one object, for all places that share it."""
    if not is_between(number, 0, len(nest) - 1):
        raise NoObject(number)
    check(value)
    if isinstance(value, (list, dict)):
        raise NoValue(())
    fresh = head(leaf_row(value))
    place = nest.objects.places[number]
    end = nest.objects.ends[number]
    if len(fresh) != end - place:
        raise NoFit(len(fresh))
    data = octets(nest)
    data[place:end] = fresh
    # What is not a file any more raises its error here.
    read(data)
    return data
