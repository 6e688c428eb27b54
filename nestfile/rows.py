"""Rows: what parts and keys are made of, so that all that are alike have one row.

A row is (kind, worth, links). The kind keeps True from 1. The worth is what a
part without items and members says: None, a truth, a number, a string, or the
numbers of its bytes or characters. The links are the numbers of other rows:
those of the items of a list, or those of the keys of a dictionary, ascending,
and then those of their values.

Rows are numbered as they come in, so that each stands behind those that it
links to.
"""

from nestfile.values import kind_of

# From this length on, what a leaf says is first looked for among the few that were met and look like it.
LONG = 200
FEW = 8


class Table:
    """The numbers of rows: those of a dict that is not changed, and behind them those of fresh rows."""

    def __init__(self, known):
        self.known = known
        self.fresh = {}
        # The long leaves that were met, by what they look like.
        self.met = {}

    def number_of(self, row):
        """Return the number of a row, which is put in unless it is there."""
        number = self.known.get(row)
        if number is None:
            return self.fresh.setdefault(row, len(self.known) + len(self.fresh))
        return number

    def listed(self):
        """List all rows in the order of their numbers."""
        return list(self.known) + list(self.fresh)


def key_links(row):
    """List the links of a row that lead to keys."""
    kind, _, links = row
    if kind == "dictionary":
        return links[:len(links) // 2]
    return ()


def part_links(row):
    """List the links of a row that lead to items or values; keys are no parts."""
    kind, _, links = row
    if kind == "dictionary":
        return links[len(links) // 2:]
    return links


def step_at(rows, row, at):
    """Return the step that leads to an item or member of a row, which is the one with this place among them."""
    if row[0] == "dictionary":
        return rows[row[2][at]][1]
    return at


def place_among(rows, row, step):
    """Return the place of the item or member to which a step leads among all of a row."""
    if row[0] == "dictionary":
        return [rows[link][1] for link in key_links(row)].index(step)
    return step


def leaf_row(part):
    """Return the row of a part that has no items or members."""
    kind = kind_of(part)
    if kind == "wide":
        return "string", part.units, ()
    if kind == "uid":
        return kind, part.number, ()
    if kind in ("data", "real", "date"):
        return kind, part.octets, ()
    return kind, part, ()


def _leaf_number(table, part):
    """Return the number of the row of a part that has no items or members."""
    row = leaf_row(part)
    kind, worth, _ = row
    if not isinstance(worth, tuple) or len(worth) < LONG:
        return table.number_of(row)
    # A long leaf may stand at thousands of places. The table would go through
    # all of its bytes each time; a list finds the very same tuple at once.
    looks = (kind, len(worth), worth[:FEW] + worth[-FEW:])
    worths, numbers = table.met.setdefault(looks, ([], []))
    if worth in worths:
        return numbers[worths.index(worth)]
    number = table.number_of(row)
    if len(worths) < FEW:
        worths.append(worth)
        numbers.append(number)
    return number


class Level:
    """All parts of one depth in the order of paths; `orders` lists the ascending keys of each dictionary of them."""

    def __init__(self, parts):
        self.parts = tuple(parts)
        self.orders = [sorted(part) for part in parts if isinstance(part, dict)]

    def opened(self):
        """List all items and members of these parts, in the order of paths."""
        found = []
        at = 0
        for holder in [part for part in self.parts if isinstance(part, (list, dict))]:
            if isinstance(holder, list):
                found.extend(holder)
            else:
                found.extend([holder[key] for key in self.orders[at]])
                at += 1
        return found


def _levels(value):
    """List the levels of a value; the last one has parts without items and members alone."""
    levels = []
    parts = [value]
    while parts:
        level = Level(parts)
        levels.append(level)
        parts = level.opened()
    return levels


def _numbers_by_part(table, parts):
    """Return a dict from each of these parts to the number of its row."""
    # Thousands of parts are the same few strings and numbers: each is put in once.
    return {part: table.number_of(leaf_row(part)) for part in {part: True for part in parts}}


def _dictionary_number(table, keys, links):
    names = [table.number_of(("string", key, ())) for key in keys]
    return table.number_of(("dictionary", None, tuple(names + links)))


def _level_numbers(table, level, below):
    """List the numbers of the rows of a level; `below` are those of all that stands in its parts."""
    # To Python True is the key 1, so what stands for itself alone has a dict of its own.
    signs = _numbers_by_part(table, [part for part in level.parts if part is None or part is True or part is False])
    plain = [part for part in level.parts if isinstance(part, (int, str)) and part is not True and part is not False]
    plain_numbers = _numbers_by_part(table, plain)
    if len(plain) == len(level.parts):
        return [plain_numbers[part] for part in plain]
    numbers = []
    orders = 0
    begin = 0
    for part in level.parts:
        end = begin
        if part is None or part is True or part is False:
            number = signs[part]
        elif isinstance(part, (int, str)):
            number = plain_numbers[part]
        elif isinstance(part, list):
            end += len(part)
            number = table.number_of(("list", None, tuple(below[begin:end])))
        elif isinstance(part, dict):
            end += len(part)
            number = _dictionary_number(table, level.orders[orders], below[begin:end])
            orders += 1
        else:
            number = _leaf_number(table, part)
        begin = end
        numbers.append(number)
    return numbers


def add_value(table, value):
    """Put the rows of a value into a table, and return the number of its own one."""
    numbers = []
    for level in reversed(_levels(value)):
        numbers = _level_numbers(table, level, numbers)
    return numbers[0]


def images_of(numbers, rows):
    """List for each row its number among those of another web, or None if it has none there.

    Each of the rows stands behind those that it links to.
    """
    images = []
    for row in rows:
        kind, worth, links = row
        if links:
            row = (kind, worth, tuple([images[link] for link in links]))
        images.append(numbers.get(row))
    return images


def shape_of(rows, top):
    """List the rows of a value in the order of its shortest file, with links that fit.

    They stand as they are first met from the top one on, the top one last. So
    equal values have equal shapes.
    """
    numbers = {}
    waiting = [top]
    while waiting:
        at = waiting.pop()
        if at not in numbers:
            # The top one is met first; nothing refers to it, so its number is never read.
            numbers[at] = len(numbers) - 1
            waiting.extend(rows[at][2][::-1])
    shape = []
    for at in [at for at in numbers if at != top] + [top]:
        kind, worth, links = rows[at]
        shape.append((kind, worth, tuple([numbers[link] for link in links])) if links else rows[at])
    return tuple(shape)
