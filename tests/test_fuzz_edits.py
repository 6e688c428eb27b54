"""Compares edits with what is done to values that are written out, and patches with the slow reader."""

import random
import unittest

import naive
import slow
from making import array, built, chain, dictionary, doubling, integer, text
from nestfile.edits import inserted, joined, patched, removed, replaced, swapped
from nestfile.errors import NestError, NoPart
from nestfile.files import entries, octets, read
from nestfile.paths import inner, part, steps
from nestfile.values import Data, Date, Real, Uid, Wide
from nestfile.webs import depth, parting, parts, path_at, times, where
from nestfile.writing import shrink, write
from test_fuzz_values import files_with_values, put, random_value

STEPS = [0, 1, 2, 3, -1, True, "a", "b", "ab", "c", "", "%", "\u00e9", None]


def cut(value, path):
    """A value without the item or member to which a path leads."""
    if len(path) > 1:
        return put(value, path[:1], cut(dict(slow.steps(value))[path[0]], path[1:]))
    if isinstance(value, list):
        return [one for at, one in enumerate(value) if at != path[0]]
    return {key: one for key, one in value.items() if key != path[0]}


def more(value, path, new):
    """A value with one more item or member, or the number of steps that can be taken."""
    if not path:
        return 0
    held = value
    for taken, step in enumerate(path[:-1]):
        found = [one for known, one in slow.steps(held) if known == step and type(known) is type(step)]
        if not found:
            return taken
        held = found[0]
    step = path[-1]
    if isinstance(held, list) and type(step) is int and 0 <= step <= len(held):
        return put(value, path[:-1], held[:step] + [new] + held[step:])
    if isinstance(held, dict) and type(step) is str and step not in held:
        if all(32 <= ord(one) <= 126 and one != "%" for one in step):
            return put(value, path[:-1], {**held, step: new})
    return len(path) - 1


def swap(value, old, new):
    if slow.sign(value) == slow.sign(old):
        return new
    if isinstance(value, list):
        return [swap(one, old, new) for one in value]
    if isinstance(value, dict):
        return {key: swap(one, old, new) for key, one in value.items()}
    return value


def outcome(function, *arguments):
    try:
        return function(*arguments)
    except NestError as error:
        return type(error), vars(error)


class TestFuzzEdits(unittest.TestCase):
    def test_replaced_and_removed(self):
        dice = random.Random(41)
        for file, _, value in files_with_values(42, 400):
            nest = read(file)
            paths = [path for path, _ in slow.walk(value)]
            for path in dice.sample(paths, min(5, len(paths))):
                new = random_value(dice, 2)
                self.assertEqual(replaced(nest, path, new), slow.shortest(put(value, path, new)))
                if path:
                    self.assertEqual(removed(nest, list(path)), slow.shortest(cut(value, path)))
                wrong = path + (dice.choice(["z", 99, -1, True, None]), 0)
                for edit in ((replaced, nest, wrong, new), (removed, nest, wrong)):
                    self.assertEqual(outcome(*edit), (NoPart, {"length": len(path)}))
            self.assertEqual(octets(nest), file)

    def test_inserted(self):
        dice = random.Random(43)
        for file, _, value in files_with_values(44, 400):
            nest = read(file)
            paths = [path for path, _ in slow.walk(value)]
            for path in dice.sample(paths, min(6, len(paths))):
                path = path + (dice.choice(STEPS),) if dice.random() < 0.9 else path + (dice.choice(STEPS), 0)
                new = random_value(dice, 2)
                expected = more(value, path, new)
                found = outcome(inserted, nest, path, new)
                if type(expected) is int:
                    self.assertEqual(found, (NoPart, {"length": expected}))
                else:
                    self.assertEqual(found, slow.shortest(expected))

    def test_swapped(self):
        dice = random.Random(45)
        for file, _, value in files_with_values(46, 400):
            nest = read(file)
            held = [one for _, one in slow.walk(value)]
            for old in dice.sample(held, min(4, len(held))) + [random_value(dice, 1) for _ in range(4)]:
                new = dice.choice([random_value(dice, 2), [old, random_value(dice, 1)], dice.choice(held)])
                self.assertEqual(swapped(nest, old, new), slow.shortest(swap(value, old, new)))

    def test_joined(self):
        dice = random.Random(47)
        rows = files_with_values(48, 100)
        for _ in range(100):
            chosen = [dice.choice(rows) for _ in range(dice.randrange(6))]
            file = joined([read(file) for file, _, _ in chosen])
            self.assertEqual(file, slow.shortest([value for _, _, value in chosen]))

    def test_edits_of_inner_nests(self):
        dice = random.Random(49)
        for file, _, value in files_with_values(50, 200):
            path, held = dice.choice(list(slow.walk(value)))
            nest = inner(read(file), path)
            new = random_value(dice, 1)
            self.assertEqual(shrink(nest), slow.shortest(held))
            self.assertEqual(replaced(nest, (), new), slow.shortest(new))
            self.assertEqual(joined([nest, read(file), nest]), slow.shortest([held, value, held]))
            for old in (1, "a", None, [], {}, new):
                self.assertEqual(swapped(nest, old, [new]), slow.shortest(swap(held, old, [new])))
            for way, _ in list(slow.walk(held))[1:4]:
                self.assertEqual(removed(nest, way), slow.shortest(cut(held, way)))
                self.assertEqual(replaced(nest, way, new), slow.shortest(put(held, way, new)))

    def test_patched(self):
        dice = random.Random(51)
        leaves = [None, True, False, 0, 255, 256, 70_000, -1, 2 ** 63, "", "a", "b", "ab", "abcdefgh", Wide([233]),
                  Wide([37]), Data([]), Data([0xA0] * 7), Uid(0), Uid(300), Real([1] * 4), Real([2] * 8), Date([3] * 8)]
        for file, reader, _ in files_with_values(52, 400):
            nest = read(file)
            for number, entry in enumerate(entries(nest)):
                new = dice.choice([one for one in leaves if len(slow.leaf(one)) == entry.length] or leaves)
                changed = list(file)
                changed[entry.place:entry.place + entry.length] = slow.leaf(new)
                found = outcome(patched, nest, number, new)
                if len(slow.leaf(new)) != entry.length:
                    self.assertEqual(found[1], {"length": len(slow.leaf(new))})
                    continue
                try:
                    naive.File(changed)
                    self.assertEqual(found, changed)
                except naive.Fault as fault:
                    self.assertEqual(found[1], dict(zip(("word", "place"), fault.args)))
            self.assertEqual(octets(nest), file)

    def test_edits_of_values_of_many_parts(self):
        # No value is written out; the shortest file is told by what it has, and the parts by their numbers.
        dice = random.Random(53)
        for _ in range(15):
            objects = [text("a"), text("b"), integer(7)]
            for at in range(3, 150):
                links = [max(2, at - dice.randrange(1, 5)) for _ in range(2)]
                objects.append(dictionary([(1, links[0]), (0, links[1])]) if dice.random() < 0.3 else array(links))
            nest = read(built(objects))
            path = path_at(nest, dice.randrange(1, parts(nest)))
            lost = parts(inner(nest, path))
            new = [[None], 7]
            for file, grown in ((replaced(nest, path, new), 4 - lost), (removed(nest, path), -lost),
                                (joined([nest, read(write(new))]), 5),
                                (swapped(nest, 7, new), 3 * times(nest, 7)), (swapped(nest, 7, None), 0)):
                self.assertEqual(slow.faults(naive.File(file)), [])
                self.assertEqual(parts(read(file)), parts(nest) + grown)
            changed = read(replaced(nest, path, new))
            self.assertEqual(part(changed, path), new)
            if lost > 1:
                self.assertTrue(parting(nest, changed)[:len(path)] == path)
            self.assertEqual(times(read(swapped(nest, 7, None)), None), times(nest, 7))
            self.assertIsNone(where(read(swapped(nest, 7, None)), 7))
            self.assertEqual(inner(changed, path), read(write(new)))
            self.assertEqual(steps(changed, path[:-1]), steps(nest, path[:-1]))
        for many in (300, 3_000):
            nest = read(chain(many))
            end = (0,) * (many - 1)
            self.assertEqual(depth(read(replaced(nest, end, [5]))), many)
            self.assertEqual(depth(read(inserted(nest, end + (0,), 5))), many)
            self.assertEqual(removed(nest, end), shrink(read(chain(many - 1))))
            self.assertEqual(swapped(nest, [], [[]]), shrink(read(chain(many + 1))))
        self.assertEqual(joined([read(doubling(200))] * 2), shrink(read(doubling(201))))


if __name__ == "__main__":
    unittest.main()
