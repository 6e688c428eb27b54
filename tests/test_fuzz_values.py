"""Compares webs, writing and paths with what `slow` finds in values that are written out."""

import random
import unittest

import naive
import slow
from making import array, built, chain, dictionary, doubling, integer, text
from nestfile.errors import NoPart
from nestfile.files import find, octets, read
from nestfile.paths import inner, part, steps
from nestfile.values import Data, Uid, Wide
from nestfile.webs import common, depth, different, parting, parts, path_at, place_of, times, where
from nestfile.writing import account, shrink, write
from test_fuzz import expected, random_file

MOST = 300


def random_value(dice, depth_left):
    form = dice.randrange(4) if depth_left else 0
    if form == 0:
        return dice.choice([None, True, False, 0, 1, 2, -1, 300, "", "a", "b", "ab", Wide([233]), Wide([37]), Data([1]),
                            Uid(1), [], {}])
    if form == 1:
        return {key: random_value(dice, depth_left - 1) for key in dice.sample(["a", "b", "ab", ""], dice.randrange(4))}
    return [random_value(dice, depth_left - 1) for _ in range(dice.randrange(4))]


def changed(dice, value):
    """A value with another part at a random place."""
    path, _ = dice.choice(list(slow.walk(value)))
    return put(value, path, random_value(dice, 1))


def put(value, path, new):
    if not path:
        return new
    if isinstance(value, list):
        return [put(one, path[1:], new) if at == path[0] else one for at, one in enumerate(value)]
    return {key: put(one, path[1:], new) if key == path[0] else one for key, one in value.items()}


def files_with_values(seed, many):
    """(file, slow reader, value) of random files that stand for few parts."""
    dice = random.Random(seed)
    found = []
    while len(found) < many:
        file = random_file(dice)
        reader, fault = expected(file)
        if fault is None:
            value = slow.from_naive(reader.value())
            if len(list(slow.walk(value))) <= MOST:
                found.append((file, reader, value))
    return found


class TestFuzzValues(unittest.TestCase):
    def test_sizes_and_places(self):
        for file, _, value in files_with_values(11, 500):
            nest = read(file)
            paths = [path for path, _ in slow.walk(value)]
            self.assertEqual((parts(nest), depth(nest), different(nest)),
                             (len(paths), slow.depth(value), slow.different(value)))
            for place, path in enumerate(paths):
                self.assertEqual(path_at(nest, place), path)
                self.assertEqual(place_of(nest, path), place)

    def test_writing(self):
        for file, reader, value in files_with_values(12, 1_000):
            nest = read(file)
            written = write(value)
            self.assertEqual(written, slow.shortest(value))
            self.assertEqual(shrink(nest), written)
            self.assertEqual(octets(read(shrink(read(written)))), written)
            self.assertLessEqual(len(written), len(file))
            told = vars(account(nest))
            self.assertEqual(told, slow.account(reader))
            self.assertEqual(sum(told.values()), len(file) - len(written))
            self.assertGreaterEqual(min(told.values()), 0)

    def test_shrunk_files_have_all_that_the_shortest_file_has(self):
        for file, _, _ in files_with_values(21, 300):
            self.assertEqual(slow.faults(naive.File(shrink(read(file)))), [])
        for file in (chain(300), doubling(300), write(list(range(300)))):
            self.assertEqual(slow.faults(naive.File(shrink(read(file)))), [])
        # The check itself finds what is wrong.
        leaf = integer(7)
        for file, wrong in ((built([leaf, leaf, array([0, 1])]), "gaps, unused or alike objects"),
                            (built([leaf, array([0])], offset_width=2), "widths"),
                            (built([array([1]), leaf], 0), "numbers"),
                            (built([leaf, array([0])], order=[1, 0]), "places"),
                            (built([integer(7, 1)]), "length"),
                            (built([text("b"), text("a"), dictionary([(0, 0), (1, 1)])]), "keys")):
            self.assertIn(wrong, slow.faults(naive.File(file)))

    def test_shrunk_files_are_equal_exactly_if_the_nests_are(self):
        nests = [read(file) for file, _, _ in files_with_values(13, 150)]
        shrunk = [shrink(nest) for nest in nests]
        for one, file in zip(nests, shrunk):
            for other, other_file in zip(nests, shrunk):
                self.assertIs(one == other, file == other_file)
                self.assertIs(parting(one, other) is None, file == other_file)

    def test_finding(self):
        dice = random.Random(14)
        for file, _, value in files_with_values(15, 300):
            nest = read(file)
            asked = [one for _, one in slow.walk(value)]
            for one in dice.sample(asked, min(10, len(asked))) + [random_value(dice, 1) for _ in range(10)]:
                self.assertEqual(times(nest, one), slow.times(value, one))
                self.assertEqual(where(nest, one), slow.where(value, one))

    def test_pairs(self):
        dice = random.Random(16)
        for _ in range(1_000):
            one = random_value(dice, 4)
            other = changed(dice, one) if dice.random() < 0.8 else random_value(dice, 4)
            nests = read(write(one)), read(write(other))
            self.assertEqual(parting(*nests), slow.parting(one, other))
            self.assertEqual(parting(*reversed(nests)), slow.parting(other, one))
            self.assertEqual(common(*nests), slow.common(one, other))
        rows = files_with_values(17, 120)
        for file, _, value in rows:
            for other_file, _, other_value in rows[:20]:
                self.assertEqual(parting(read(file), read(other_file)), slow.parting(value, other_value))
                self.assertEqual(common(read(file), read(other_file)), slow.common(value, other_value))

    def test_parts(self):
        dice = random.Random(18)
        for file, _, value in files_with_values(19, 200):
            nest = read(file)
            rows = list(slow.walk(value))
            for path, one in dice.sample(rows, min(30, len(rows))):
                self.assertEqual(slow.sign(part(nest, path)), slow.sign(one))
                self.assertEqual(steps(nest, path), [step for step, _ in slow.steps(one)])
                found = inner(nest, path)
                self.assertEqual(shrink(found), write(one))
                self.assertEqual(find(found, ()), find(nest, path))
                self.assertEqual((parts(found), depth(found), different(found)),
                                 (len(list(slow.walk(one))), slow.depth(one), slow.different(one)))
                self.assertEqual(common(found, nest), slow.common(one, value))
                for step in (-1, 17, True, "z"):
                    for function in (part, steps, inner, place_of):
                        with self.assertRaises(NoPart) as caught:
                            function(nest, path + (step, 0))
                        self.assertEqual(caught.exception.length, len(path))

    def test_webs_of_many_parts(self):
        # Lists and dictionaries of the objects before them: numbers of parts by a sum over the objects.
        dice = random.Random(20)
        for _ in range(30):
            objects = [text("a"), text("b"), integer(7)]
            counts = [1, 1, 1]
            for at in range(3, 200):
                links = [max(2, at - dice.randrange(1, 5)) for _ in range(2)]
                objects.append(dictionary([(1, links[0]), (0, links[1])]) if dice.random() < 0.3 else array(links))
                counts.append(1 + sum(counts[link] for link in links))
            nest = read(built(objects))
            self.assertEqual(parts(nest), counts[-1])
            self.assertTrue(read(shrink(nest)) == nest)
            self.assertEqual(slow.faults(naive.File(shrink(nest))), [])
            self.assertIsNone(parting(read(shrink(nest)), nest))
            for _ in range(20):
                place = dice.randrange(counts[-1])
                path = path_at(nest, place)
                self.assertEqual(place_of(nest, path), place)
                self.assertEqual(parts(inner(nest, path)), counts[find(nest, path)])
            first = where(nest, 7)
            self.assertEqual(part(nest, first), 7)
        self.assertEqual(parts(read(doubling(200))), 2 ** 200 - 1)


if __name__ == "__main__":
    unittest.main()
