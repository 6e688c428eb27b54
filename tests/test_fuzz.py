"""Compares `read` with the slow reader of `naive` on thousands of small files."""

import random
import unittest

import naive
from making import array, built, data, date, dictionary, integer, real, text, uid, wide
from nestfile.errors import NoPart, Torn
from nestfile.files import entries, find, gaps, octets, read, top, unused


def random_leaf(dice):
    few = [dice.randrange(256) for _ in range(dice.choice([0, 1, 2, 15, 16]))]
    word = dice.choice(["", "a", "b", "ab", "x" * 15, "%", "a\n"])
    eight = [dice.randrange(2)] * 8
    return dice.choice([
        [0x00], [0x08], [0x09],
        integer(dice.choice([0, 1, 5, 255]), dice.randrange(5)),
        integer(dice.choice([-1, -(2 ** 63), 2 ** 63 - 1]), dice.choice([3, 4])),
        integer(2 ** 64 - 1, 4),
        uid(dice.choice([0, 1, 5]), dice.randrange(1, 17)),
        data(few, dice.choice([None, 0, 1, 2, 3, 4])),
        text(word, dice.choice([None, 0, 4])),
        wide([ord(sign) for sign in word], dice.choice([None, 1, 3])),
        wide([dice.choice([97, 233, 8364])]),
        real(eight), real(eight[:4]), date(eight)])


def random_file(dice):
    """A file without faults, most of the time."""
    width = dice.choice([1, 1, 1, 2, 3, 8])
    objects = [text("a"), text("b"), wide([99])][:dice.randrange(1, 4)]
    keys = len(objects)
    for at in range(keys, dice.randrange(keys + 1, 12)):
        form = dice.randrange(3)
        if form == 0:
            objects.append(random_leaf(dice))
        elif form == 1:
            items = [dice.randrange(at) for _ in range(dice.choice([0, 1, 2, 3, 16]))]
            objects.append(array(items, width, dice.choice([None, 0, 2])))
        else:
            chosen = dice.sample(range(keys), dice.randrange(keys + 1))
            objects.append(dictionary([(key, dice.randrange(at)) for key in chosen], width))
    many = len(objects)
    order = dice.sample(range(many), many)
    between = {at: [dice.randrange(256)] * dice.randrange(3) for at in range(many) if dice.random() < 0.2}
    top_ = dice.choice([many - 1, dice.randrange(many)])
    return built(objects, top_, offset_width=dice.choice([2, 3, 8]), reference_width=width, order=order, gaps=between)


def damaged(dice, file):
    file = list(file)
    for _ in range(dice.choice([1, 1, 2, 3])):
        at = dice.randrange(8, len(file) - 32) if dice.random() < 0.9 else dice.randrange(len(file))
        file[at] = dice.choice([dice.randrange(256), dice.randrange(16), file[at] ^ 1, file[at] ^ 16])
    if dice.random() < 0.02:
        del file[dice.randrange(len(file))]
    return file


def expected(file):
    try:
        return naive.File(file), None
    except naive.Fault as fault:
        return None, fault.args


def found(file):
    try:
        return read(file), None
    except Torn as torn:
        return None, (torn.word, torn.place)


class TestFuzz(unittest.TestCase):
    def compare(self, slow, nest, file):
        self.assertEqual(octets(nest), file)
        self.assertEqual([(one.kind, one.place, one.length, one.references) for one in entries(nest)],
                         [row[:4] for row in slow.objects])
        self.assertEqual(len(nest), slow.count)
        self.assertEqual(top(nest), slow.top)
        self.assertEqual(unused(nest), slow.unused())
        self.assertEqual(gaps(nest), slow.gaps())

    def test_files_with_and_without_faults(self):
        dice = random.Random(1)
        words = {}
        for _ in range(6_000):
            file = random_file(dice)
            for one in (file, damaged(dice, file)):
                slow, fault = expected(one)
                nest, torn = found(one)
                self.assertEqual(torn, fault, bytes(one).hex())
                words[fault and fault[0]] = words.get(fault and fault[0], 0) + 1
                if nest is not None:
                    self.compare(slow, nest, one)
        for word in (None, "header", "offsets", "references", "count", "top", "table", "offset", "marker", "end",
                     "size", "ascii", "reference", "overlap", "key", "twice", "ring"):
            self.assertGreater(words.get(word, 0), 3, word)

    def test_equality(self):
        dice = random.Random(2)
        files = [file for file in [random_file(dice) for _ in range(250)] if expected(file)[1] is None]
        values = [naive.File(file).value() for file in files]
        nests = [read(file) for file in files]
        equal = 0
        for one, value in zip(nests, values):
            for other, other_value in zip(nests, values):
                same = repr_of(value) == repr_of(other_value)
                self.assertIs(one == other, same)
                equal += same
        self.assertGreater(equal, len(files))

    def test_paths(self):
        dice = random.Random(3)
        for _ in range(300):
            file = random_file(dice)
            slow, fault = expected(file)
            if fault is None:
                nest = read(file)
                ways = list(zip(slow.paths(), range(300)))
                for (path, number), _ in ways:
                    self.assertEqual(find(nest, path), number)
                    self.assertIn(path, nest)
                    for step in (16, -1, "d", True):
                        self.assertNotIn(path + (step,), nest)
                        with self.assertRaises(NoPart) as caught:
                            find(nest, path + (step, 0))
                        self.assertEqual(caught.exception.length, len(path))


def repr_of(value):
    """A text of a value of `naive` that tells True from 1 and does not depend on the order of keys."""
    kind, worth = value
    if kind == "list":
        return "[" + ",".join([repr_of(one) for one in worth]) + "]"
    if kind == "dictionary":
        return "{" + ",".join([key + ":" + repr_of(worth[key]) for key in sorted(worth)]) + "}"
    return repr(value)


if __name__ == "__main__":
    unittest.main()
