"""The shape of a web of objects: which of them are alike, and the one order of all that differ."""

from nestfile.errors import Torn


def leaves_first(nodes):
    """List the numbers of all objects, each behind those that it refers to unless there is a ring."""
    order = []
    met = [False] * len(nodes)
    for start in range(len(nodes)):
        waiting = [(start, False)]
        while waiting:
            number, finished = waiting.pop()
            if finished:
                order.append(number)
            elif not met[number]:
                met[number] = True
                waiting.append((number, True))
                waiting.extend([(link, False) for link in nodes[number].references])
    return order


def _holders(nodes):
    """List for each object the numbers of those that refer to it."""
    holders = [[] for _ in nodes]
    for number, node in enumerate(nodes):
        for link in node.references:
            holders[link].append(number)
    return holders


def _knots(nodes, order):
    """Split the objects into the largest groups in which each leads to each other one."""
    # Taken from the end of the order, an object also leads to all that lead to
    # it and were not met before: otherwise these would stand behind it.
    holders = _holders(nodes)
    met = [False] * len(nodes)
    knots = []
    for start in reversed(order):
        knot = []
        waiting = [start]
        while waiting:
            number = waiting.pop()
            if not met[number]:
                met[number] = True
                knot.append(number)
                waiting.extend(holders[number])
        if knot:
            knots.append(knot)
    return knots


def check_rings(nodes, order):
    """Raise Torn if an object contains itself; the order is that of `leaves_first`."""
    inside = []
    for knot in _knots(nodes, order):
        if len(knot) > 1 or knot[0] in nodes[knot[0]].references:
            inside.extend(knot)
    if inside:
        raise Torn("ring", nodes[min(inside)].place)


def _links(node):
    """List the references of an object, those of a dictionary by its keys ascending."""
    if node.kind != "dictionary":
        return list(node.references)
    many = len(node.labels)
    links = {label: node.references[at] for at, label in enumerate(node.labels)}
    labels = sorted(node.labels)
    return [links[label] for label in labels] + [node.members[label] for label in labels]


def _classes(nodes, order):
    """Give alike objects one number; return the rows of these numbers and the number of each object.

    A row is (kind, worth, numbers of the parts). The kind keeps True from 1.
    """
    found = {}
    owners = [0] * len(nodes)
    for number in order:
        node = nodes[number]
        row = (node.kind, node.worth, tuple([owners[link] for link in _links(node)]))
        owners[number] = found.setdefault(row, len(found))
    return list(found), owners


def _renumbered(row, numbers):
    kind, worth, links = row
    return kind, worth, tuple([numbers[link] for link in links])


def shape_of(nodes, order, root):
    """List the different objects of a value as rows (kind, worth, references).

    The rows stand in the order of the shortest file: as they are first met
    from the top on, the top one last. So equal values have equal shapes.
    """
    rows, owners = _classes(nodes, order)
    top = owners[root]
    numbers = {}
    waiting = [top]
    while waiting:
        at = waiting.pop()
        if at not in numbers:
            # The top one is met first; nothing refers to it, so its number is never read.
            numbers[at] = len(numbers) - 1
            waiting.extend(list(reversed(rows[at][2])))
    met = [at for at in numbers if at != top] + [top]
    return tuple([_renumbered(rows[at], numbers) for at in met])


def reached(nodes, root):
    """Tell for each object whether it is the top one or references lead to it from there."""
    met = [False] * len(nodes)
    waiting = [root]
    while waiting:
        number = waiting.pop()
        if not met[number]:
            met[number] = True
            waiting.extend(nodes[number].references)
    return met
