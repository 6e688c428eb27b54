"""The web of objects of a file: its rings, and which objects are alike."""

from itertools import accumulate

from nestfile.errors import Torn
from nestfile.rows import part_links

FRESH = 0
BEGUN = 1
DONE = 2
# Rows of so many links are not added up again each time that a place in them is asked for.
WIDE = 16


def _holders(references):
    """List for each object the numbers of those that refer to it."""
    holders = [[] for _ in references]
    for number, links in enumerate(references):
        for link in links:
            holders[link].append(number)
    return holders


def _knots(references, order):
    """Split the objects into the largest groups in which each leads to each other one."""
    # Taken from the end of the order, an object also leads to all that lead to
    # it and were not met before: otherwise these would stand behind it.
    holders = _holders(references)
    met = [False] * len(references)
    knots = []
    for start in reversed(order):
        knot = []
        waiting = [start]
        while waiting:
            number = waiting.pop()
            if not met[number]:
                met[number] = True
                knot.append(number)
                waiting.extend(holders[number])
        if knot:
            knots.append(knot)
    return knots


def _first_inside(references, order):
    """Return the smallest number of an object that contains itself; there is one."""
    inside = []
    for knot in _knots(references, order):
        if len(knot) > 1 or knot[0] in references[knot[0]]:
            inside.extend(knot)
    return min(inside)


def leaves_first(objects, root):
    """List the numbers of all objects, each behind those that it refers to, and all that the root leads to first.

    Raises Torn if an object contains itself.
    """
    references = objects.references
    order = []
    states = [FRESH] * len(references)
    rings = False
    for start in [root] + list(range(len(references))):
        waiting = [start] if states[start] == FRESH else []
        while waiting:
            number = waiting.pop()
            if number < 0:
                # All that this one leads to is done.
                states[~number] = DONE
                order.append(~number)
            elif states[number] == FRESH and references[number]:
                states[number] = BEGUN
                waiting.append(~number)
                waiting.extend(references[number])
            elif states[number] == FRESH:
                states[number] = DONE
                order.append(number)
            elif states[number] == BEGUN:
                rings = True
    if rings:
        raise Torn("ring", objects.places[_first_inside(references, order)])
    return order


def _ordered(objects, number):
    """List the references of a dictionary by its keys ascending."""
    links = objects.references[number]
    labels = list(objects.members[number])
    triples = sorted(zip(labels, links, links[len(labels):]))
    return [triple[1] for triple in triples] + [triple[2] for triple in triples]


def _owned(objects, order):
    """Return the numbers of all rows of the objects, and the list of the numbers of their own ones."""
    numbers = {}
    owners = [0] * len(order)
    for number in order:
        links = objects.references[number]
        if links:
            if number in objects.members:
                links = _ordered(objects, number)
            links = tuple([owners[link] for link in links])
        row = (objects.kinds[number], objects.worths[number], links)
        owners[number] = numbers.setdefault(row, len(numbers))
    return numbers, owners


class Web:
    """What the objects of a file say, whichever of them is the top one.

    `rows` lists their rows, each behind those that it links to, `numbers`
    leads from each row to its number, and `owners` tells for each object the
    number of its row. The first rows, up to `first`, are those that the top
    object of the file as it was read leads to. For the part with each row,
    `depths` and `counts` tell its depth and its number of parts; for the wide
    ones `sums` tells how many of these the first item or member has, the first
    two, and so on.
    """

    def __init__(self, objects, root):
        numbers, owners = _owned(objects, leaves_first(objects, root))
        rows = list(numbers)
        depths, counts = _sizes(rows)
        self.numbers = numbers
        self.rows = tuple(rows)
        self.owners = tuple(owners)
        self.first = owners[root]
        self.depths = tuple(depths)
        self.counts = tuple(counts)
        self.sums = _wide_sums(rows, counts)


def _sizes(rows):
    """Return the lists `depths` and `counts` of a web, of which each row stands behind those that it links to."""
    depths = [0] * len(rows)
    counts = [1] * len(rows)
    for number, row in enumerate(rows):
        for link in part_links(row):
            counts[number] += counts[link]
            if depths[link] >= depths[number]:
                depths[number] = depths[link] + 1
    return depths, counts


def _wide_sums(rows, counts):
    """Return the dict `sums` of a web."""
    found = {}
    for number, row in enumerate(rows):
        if len(row[2]) >= WIDE:
            found[number] = tuple(accumulate([counts[link] for link in part_links(row)]))
    return found


def used_rows(web, top):
    """List the numbers of the rows that make up the part with the top row, ascending."""
    if top == web.first:
        return list(range(top + 1))
    met = [False] * (top + 1)
    met[top] = True
    for number in reversed(range(top + 1)):
        if met[number]:
            for link in web.rows[number][2]:
                met[link] = True
    return [number for number, used in enumerate(met) if used]


def reached(references, root):
    """Tell for each object whether it is the top one or references lead to it from there."""
    met = [False] * len(references)
    waiting = [root]
    while waiting:
        number = waiting.pop()
        if not met[number]:
            met[number] = True
            waiting.extend(references[number])
    return met
