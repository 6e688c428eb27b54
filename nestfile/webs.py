"""What the value of a nest is made of; it is never written out."""

from nestfile.errors import NoPlace
from nestfile.files import find
from nestfile.rows import add_value, key_links, part_links, place_among, step_at
from nestfile.values import check, is_between


def parts(nest):
    """Return the number of parts of the value."""
    return nest.web.counts[nest.top_row]


def depth(nest):
    """Return the depth of the value."""
    return nest.web.depths[nest.top_row]


def different(nest):
    """Return the number of different parts and keys; a key counts as a string."""
    return len(nest.shape)


def _row_of(nest, value):
    """Return the number of the row of a value, or None if no object of the file is alike it."""
    check(value)
    # The rows that the value lacks are put into a copy.
    numbers = {row: number for row, number in nest.web.numbers.items()}
    target = add_value(numbers, value)
    return target if target < len(nest.web.rows) else None


def times(nest, value):
    """Return at how many places a part stands that is alike a value."""
    target = _row_of(nest, value)
    if target is None:
        return 0
    # Each row stands behind those that it links to, so all places of a part
    # are counted when its own items and members are met.
    ways = [0] * len(nest.web.rows)
    ways[nest.top_row] = 1
    for number in reversed(range(target + 1, nest.top_row + 1)):
        if ways[number] > 0:
            for link in part_links(nest.web.rows[number]):
                ways[link] = ways[link] + ways[number]
    return ways[target]


def _holders(rows, target):
    """Tell for each row whether the part with this row is or holds the one with the target's."""
    holds = []
    for number, row in enumerate(rows):
        holds.append(number == target or any([holds[link] for link in part_links(row)]))
    return holds


def where(nest, value):
    """Return the first path that leads to a part that is alike a value, or None."""
    target = _row_of(nest, value)
    rows = nest.web.rows
    holds = _holders(rows, target)
    number = nest.top_row
    if not holds[number]:
        return None
    path = []
    while number != target:
        row = rows[number]
        at = [holds[link] for link in part_links(row)].index(True)
        path.append(step_at(rows, row, at))
        number = part_links(row)[at]
    return tuple(path)


def _are_parts(nest):
    """Tell for each row whether it is that of a part of the value; a key alone is no part."""
    met = [False] * len(nest.web.rows)
    met[nest.top_row] = True
    for number in reversed(range(nest.top_row + 1)):
        if met[number]:
            for link in part_links(nest.web.rows[number]):
                met[link] = True
    return met


def _images(nest, other):
    """List for each row of the other nest its number in the nest, or None if it has none there."""
    images = []
    for kind, worth, links in other.web.rows:
        row = (kind, worth, tuple([images[link] for link in links]))
        images.append(nest.web.numbers.get(row))
    return images


def common(nest, other):
    """Return how many different parts, not keys, occur in both values."""
    here = _are_parts(nest)
    there = _are_parts(other)
    pairs = [(image, number) for number, image in enumerate(_images(nest, other)) if image is not None]
    return len([image for image, number in pairs if here[image] and there[number]])


def _last_begin(begins, place):
    """Return where in the ascending list the last number stands that is not greater than the place."""
    low = 0
    high = len(begins)
    while high - low > 1:
        middle = (low + high) // 2
        if begins[middle] > place:
            high = middle
        else:
            low = middle
    return low


def path_at(nest, place):
    """Return the path of the part with this place in the order of paths."""
    if not is_between(place, 0, parts(nest) - 1):
        raise NoPlace(place)
    web = nest.web
    number = nest.top_row
    path = []
    while place > 0:
        row = web.rows[number]
        at = _last_begin(web.begins[number], place)
        path.append(step_at(web.rows, row, at))
        place = place - web.begins[number][at]
        number = part_links(row)[at]
    return tuple(path)


def place_of(nest, path):
    """Return the place that the part to which a path leads has in the order of paths."""
    # A path that cannot be taken raises its error here.
    find(nest, path)
    web = nest.web
    number = nest.top_row
    place = 0
    for step in path:
        row = web.rows[number]
        at = place_among(web.rows, row, step)
        place = place + web.begins[number][at]
        number = part_links(row)[at]
    return place


def _differ(one, other, images):
    """Tell whether two rows are those of parts that differ in themselves; `images` lists what `_images` returns."""
    kind, worth, links = one
    other_kind, other_worth, other_links = other
    if kind != other_kind or worth != other_worth or len(links) != len(other_links):
        return True
    return list(key_links(one)) != [images[link] for link in key_links(other)]


def parting(nest, other):
    """Return the first path at which parts stand that are different in themselves, or None."""
    images = _images(nest, other)
    number = nest.top_row
    other_number = other.top_row
    if images[other_number] == number:
        return None
    path = []
    row = nest.web.rows[number]
    other_row = other.web.rows[other_number]
    while not _differ(row, other_row, images):
        # Unequal parts that do not differ in themselves have unequal items or members.
        pairs = list(zip(part_links(row), part_links(other_row)))
        at = [images[there] == here for here, there in pairs].index(False)
        path.append(step_at(nest.web.rows, row, at))
        row = nest.web.rows[pairs[at][0]]
        other_row = other.web.rows[pairs[at][1]]
    return tuple(path)
