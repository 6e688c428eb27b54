"""The web of objects of a file: its rings, and which objects are alike."""

from nestfile.errors import Torn
from nestfile.rows import part_links, row_number


def leaves_first(nodes):
    """List the numbers of all objects, each behind those that it refers to unless there is a ring."""
    order = []
    met = [False] * len(nodes)
    for start in range(len(nodes)):
        waiting = [(start, False)]
        while waiting:
            number, finished = waiting.pop()
            if finished:
                order.append(number)
            elif not met[number]:
                met[number] = True
                waiting.append((number, True))
                waiting.extend([(link, False) for link in nodes[number].references])
    return order


def _holders(nodes):
    """List for each object the numbers of those that refer to it."""
    holders = [[] for _ in nodes]
    for number, node in enumerate(nodes):
        for link in node.references:
            holders[link].append(number)
    return holders


def _knots(nodes, order):
    """Split the objects into the largest groups in which each leads to each other one."""
    # Taken from the end of the order, an object also leads to all that lead to
    # it and were not met before: otherwise these would stand behind it.
    holders = _holders(nodes)
    met = [False] * len(nodes)
    knots = []
    for start in reversed(order):
        knot = []
        waiting = [start]
        while waiting:
            number = waiting.pop()
            if not met[number]:
                met[number] = True
                knot.append(number)
                waiting.extend(holders[number])
        if knot:
            knots.append(knot)
    return knots


def check_rings(nodes, order):
    """Raise Torn if an object contains itself; the order is that of `leaves_first`."""
    inside = []
    for knot in _knots(nodes, order):
        if len(knot) > 1 or knot[0] in nodes[knot[0]].references:
            inside.extend(knot)
    if inside:
        raise Torn("ring", nodes[min(inside)].place)


def _links(node):
    """List the references of an object, those of a dictionary by its keys ascending."""
    if node.kind != "dictionary":
        return list(node.references)
    many = len(node.labels)
    links = {label: node.references[at] for at, label in enumerate(node.labels)}
    labels = sorted(node.labels)
    return [links[label] for label in labels] + [node.members[label] for label in labels]


class Web:
    """What the objects of a file say, whichever of them is the top one.

    `rows` lists their rows, each behind those that it links to, `numbers`
    leads from each row to its number, and `owners` tells for each object the
    number of its row. For the part with each row, `depths` and `counts` tell
    its depth and its number of parts, and `begins` at which of these parts
    each of its items or members begins.
    """

    def __init__(self, nodes, order):
        numbers = {}
        owners = [0] * len(nodes)
        for number in order:
            node = nodes[number]
            links = tuple([owners[link] for link in _links(node)])
            owners[number] = row_number(numbers, (node.kind, node.worth, links))
        rows = list(numbers)
        begins, counts = _counted(rows)
        self.numbers = numbers
        self.rows = tuple(rows)
        self.owners = tuple(owners)
        self.depths = tuple(_depths(rows))
        self.begins = tuple(begins)
        self.counts = tuple(counts)


def _depths(rows):
    depths = []
    for row in rows:
        depths.append(1 + max([depths[link] for link in part_links(row)], default=-1))
    return depths


def _counted(rows):
    """Return the lists `begins` and `counts` of a web."""
    begins = []
    counts = []
    for row in rows:
        place = 1
        places = []
        for link in part_links(row):
            places.append(place)
            place = place + counts[link]
        begins.append(tuple(places))
        counts.append(place)
    return begins, counts


def reached(nodes, root):
    """Tell for each object whether it is the top one or references lead to it from there."""
    met = [False] * len(nodes)
    waiting = [root]
    while waiting:
        number = waiting.pop()
        if not met[number]:
            met[number] = True
            waiting.extend(nodes[number].references)
    return met
