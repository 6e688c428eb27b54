"""What the value of a nest is made of; it is never written out."""

from nestfile.errors import NoPlace
from nestfile.files import find
from nestfile.rows import Table, add_value, images_of, key_links, part_links, place_among, step_at
from nestfile.shapes import used_rows
from nestfile.values import is_between, measured


def parts(nest):
    """Return the number of parts of the value."""
    return nest.web.counts[nest.top_row]


def depth(nest):
    """Return the depth of the value."""
    return nest.web.depths[nest.top_row]


def different(nest):
    """Return the number of different parts and keys; a key counts as a string."""
    return len(used_rows(nest.web, nest.top_row))


def row_of(nest, value):
    """Return the number of the row of a value, or None if it is surely no part of that of the nest."""
    value_depth, many = measured(value)
    if value_depth > depth(nest) or many > parts(nest):
        return None
    target = add_value(Table(nest.web.numbers), value)
    return target if target <= nest.top_row else None


def times(nest, value):
    """Return at how many places a part stands that is alike a value."""
    target = row_of(nest, value)
    if target is None:
        return 0
    # Each row stands behind those that it links to, so all places of a part
    # are counted when its own items and members are met.
    ways = [0] * (nest.top_row + 1)
    ways[nest.top_row] = 1
    for number in reversed(range(target + 1, nest.top_row + 1)):
        if ways[number] > 0:
            for link in part_links(nest.web.rows[number]):
                ways[link] = ways[link] + ways[number]
    return ways[target]


def _holders(nest, target):
    """Tell for each row up to the top one whether the part with this row is or holds the one with the target's."""
    holds = [False] * (nest.top_row + 1)
    holds[target] = True
    for number in range(target + 1, nest.top_row + 1):
        holds[number] = any([holds[link] for link in part_links(nest.web.rows[number])])
    return holds


def where(nest, value):
    """Return the first path that leads to a part that is alike a value, or None."""
    target = row_of(nest, value)
    if target is None:
        return None
    rows = nest.web.rows
    holds = _holders(nest, target)
    number = nest.top_row
    if not holds[number]:
        return None
    path = []
    while number != target:
        row = rows[number]
        at = [holds[link] for link in part_links(row)].index(True)
        path.append(step_at(rows, row, at))
        number = part_links(row)[at]
    return tuple(path)


def _are_parts(nest):
    """Tell for each row whether it is that of a part of the value; a key alone is no part."""
    met = [False] * (nest.top_row + 1)
    met[nest.top_row] = True
    for number in reversed(range(nest.top_row + 1)):
        if met[number]:
            for link in part_links(nest.web.rows[number]):
                met[link] = True
    return met


def common(nest, other):
    """Return how many different parts, not keys, occur in both values."""
    here = _are_parts(nest)
    there = _are_parts(other)
    images = images_of(nest.web.numbers, other.web.rows[:len(there)])
    pairs = [(image, number) for number, image in enumerate(images) if image is not None and there[number]]
    return len([image for image, _ in pairs if image < len(here) and here[image]])


def _first_above(sums, place):
    """Return where in the ascending list the first number stands that is greater than the place; there is one."""
    low = 0
    high = len(sums) - 1
    while low < high:
        middle = (low + high) // 2
        if sums[middle] > place:
            high = middle
        else:
            low = middle + 1
    return low


def _before(web, number, at):
    """Return how many parts of the items and members of a row stand before the one at a place."""
    if at == 0:
        return 0
    if number in web.sums:
        return web.sums[number][at - 1]
    return sum([web.counts[link] for link in part_links(web.rows[number])[:at]])


def _entered(web, number, place):
    """Return where the item or member of a row stands that holds a part, and the place of the part in it.

    The place that is handed in is counted from the first part of the first one.
    """
    if number in web.sums:
        at = _first_above(web.sums[number], place)
        return at, place - _before(web, number, at)
    links = part_links(web.rows[number])
    at = 0
    while place >= web.counts[links[at]]:
        place = place - web.counts[links[at]]
        at += 1
    return at, place


def path_at(nest, place):
    """Return the path of the part with this place in the order of paths."""
    if not is_between(place, 0, parts(nest) - 1):
        raise NoPlace(place)
    web = nest.web
    number = nest.top_row
    path = []
    while place > 0:
        # The first place is that of the part itself.
        at, place = _entered(web, number, place - 1)
        row = web.rows[number]
        path.append(step_at(web.rows, row, at))
        number = part_links(row)[at]
    return tuple(path)


def place_of(nest, path):
    """Return the place that the part to which a path leads has in the order of paths."""
    # A path that cannot be taken raises its error here.
    find(nest, path)
    web = nest.web
    number = nest.top_row
    # Each step also goes behind the part that it leaves.
    place = len(path)
    for step in path:
        row = web.rows[number]
        at = place_among(web.rows, row, step)
        place = place + _before(web, number, at)
        number = part_links(row)[at]
    return place


def _differ(one, other, images):
    """Tell whether two rows are those of parts that differ in themselves; `images` lists what `images_of` returns."""
    kind, worth, links = one
    other_kind, other_worth, other_links = other
    if kind != other_kind or worth != other_worth or len(links) != len(other_links):
        return True
    return list(key_links(one)) != [images[link] for link in key_links(other)]


def parting(nest, other):
    """Return the first path at which parts stand that are different in themselves, or None."""
    images = images_of(nest.web.numbers, other.web.rows[:other.top_row + 1])
    number = nest.top_row
    other_number = other.top_row
    if images[other_number] == number:
        return None
    path = []
    row = nest.web.rows[number]
    other_row = other.web.rows[other_number]
    while not _differ(row, other_row, images):
        # Unequal parts that do not differ in themselves have unequal items or members.
        pairs = list(zip(part_links(row), part_links(other_row)))
        at = [images[there] == here for here, there in pairs].index(False)
        path.append(step_at(nest.web.rows, row, at))
        row = nest.web.rows[pairs[at][0]]
        other_row = other.web.rows[pairs[at][1]]
    return tuple(path)
