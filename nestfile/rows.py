"""Rows: what parts and keys are made of, so that all that are alike have one row.

A row is (kind, worth, links). The kind keeps True from 1. The worth is what a
part without items and members says: None, a truth, a number, a string, or the
numbers of its bytes or characters. The links are the numbers of other rows:
those of the items of a list, or those of the keys of a dictionary, ascending,
and then those of their values.

A table leads from each row to its number. Rows are numbered as they come in,
so that each stands behind those that it links to.
"""

from nestfile.values import kind_of, steps_of

# From this length on, what a leaf says is first looked for among the few that were met and look like it.
LONG = 200
FEW = 8


def row_number(table, row):
    """Return the number of a row, which is put into the table unless it is there."""
    return table.setdefault(row, len(table))


def key_links(row):
    """List the links of a row that lead to keys."""
    kind, _, links = row
    if kind == "dictionary":
        return links[:len(links) // 2]
    return ()


def part_links(row):
    """List the links of a row that lead to items or values; keys are no parts."""
    kind, _, links = row
    if kind == "dictionary":
        return links[len(links) // 2:]
    return links


def step_at(rows, row, at):
    """Return the step that leads to an item or member of a row, which is the one with this place among them."""
    if row[0] == "dictionary":
        return rows[row[2][at]][1]
    return at


def place_among(rows, row, step):
    """Return the place of the item or member to which a step leads among all of a row."""
    if row[0] == "dictionary":
        return [rows[link][1] for link in key_links(row)].index(step)
    return step


def _told(part):
    """Return the kind and the worth that the row of a part has."""
    kind = kind_of(part)
    if kind == "wide":
        return "string", part.units
    if kind == "uid":
        return kind, part.number
    if kind in ("data", "real", "date"):
        return kind, part.octets
    return kind, part


def _leaf_number(table, met, part):
    """Return the number of the row of a part that has no items or members; `met` is a dict of long ones."""
    kind, worth = _told(part)
    if not isinstance(worth, tuple) or len(worth) < LONG:
        return row_number(table, (kind, worth, ()))
    # A long leaf may stand at thousands of places. The table would go through
    # all of its bytes each time; a list finds the very same tuple at once.
    looks = (kind, len(worth), worth[:FEW] + worth[-FEW:])
    worths, numbers = met.setdefault(looks, ([], []))
    if worth in worths:
        return numbers[worths.index(worth)]
    number = row_number(table, (kind, worth, ()))
    if len(worths) < FEW:
        worths.append(worth)
        numbers.append(number)
    return number


def _listed(value):
    """List the parts of a value in the order of paths, as (part, steps)."""
    listed = []
    waiting = [value]
    while waiting:
        part = waiting.pop()
        steps = steps_of(part)
        listed.append((part, steps))
        waiting.extend([part[step] for step in reversed(steps)])
    return listed


def add_value(table, value):
    """Put the rows of a value into a table, and return the number of its own one."""
    met = {}
    # From the last part to the first one, all items and members come before
    # what holds them, the first of these on top.
    numbers = []
    for part, steps in reversed(_listed(value)):
        links = [numbers.pop() for _ in steps]
        if isinstance(part, list):
            numbers.append(row_number(table, ("list", None, tuple(links))))
        elif isinstance(part, dict):
            names = [row_number(table, ("string", key, ())) for key in steps]
            numbers.append(row_number(table, ("dictionary", None, tuple(names + links))))
        else:
            numbers.append(_leaf_number(table, met, part))
    return numbers[0]


def _renumbered(row, numbers):
    kind, worth, links = row
    return kind, worth, tuple([numbers[link] for link in links])


def shape_of(rows, top):
    """List the rows of a value in the order of its shortest file, with links that fit.

    They stand as they are first met from the top one on, the top one last. So
    equal values have equal shapes.
    """
    numbers = {}
    waiting = [top]
    while waiting:
        at = waiting.pop()
        if at not in numbers:
            # The top one is met first; nothing refers to it, so its number is never read.
            numbers[at] = len(numbers) - 1
            waiting.extend(list(reversed(rows[at][2])))
    met = [at for at in numbers if at != top] + [top]
    return tuple([_renumbered(rows[at], numbers) for at in met])
