"""Files of up to 50,000 bytes are read and asked in seconds at most, whatever they hold."""

import time
import unittest

from making import NONE, TRUE, array, built, chain, data, dictionary, doubling, framed, integer, number, text
from nestfile.desk import Desk
from nestfile.edits import inserted, joined, patched, removed, replaced, swapped
from nestfile.errors import BadText, Large, Torn
from nestfile.files import entries, find, gaps, octets, read, unused
from nestfile.nesttexts import hex_text, path_text, read_hex, read_path, read_value, value_text
from nestfile.paths import inner, part, steps
from nestfile.shelf import Shelf
from nestfile.values import Data, Wide, check
from nestfile.webs import common, depth, different, parting, parts, path_at, place_of, times, where
from nestfile.writing import account, shrink, write

# Far more than each test takes, so that a slow machine does not matter, and far less than what grows too fast.
SECONDS = 15


class TestSpeed(unittest.TestCase):
    def setUp(self):
        self.begin = time.perf_counter()

    def tearDown(self):
        self.assertLess(time.perf_counter() - self.begin, SECONDS)

    def torn(self, file, word):
        self.assertLessEqual(len(file), 50_000)
        with self.assertRaises(Torn) as caught:
            read(file)
        self.assertEqual(caught.exception.word, word)

    def sound(self, file):
        self.assertLessEqual(len(file), 50_000)
        nest = read(file)
        self.assertTrue(nest == read(file))
        self.assertEqual(octets(nest), file)
        self.assertEqual(len(entries(nest)), len(nest))
        unused(nest)
        gaps(nest)
        self.asked(nest, read(file))
        self.edited(nest)
        return nest

    def edited(self, nest):
        """Edit at the first, a middle and the last part; files of more than 10,000 objects are refused."""
        for place in (0, parts(nest) // 3, parts(nest) - 1):
            path = path_at(nest, place)
            try:
                changed = read(replaced(nest, path, ["new", None]))
                self.assertEqual(part(changed, path), ["new", None])
                self.assertEqual(path == (), shrink(changed) == write(["new", None]))
                if path:
                    self.assertEqual(parts(read(removed(nest, path))), parts(nest) - parts(inner(nest, path)))
                if isinstance((steps(nest, path) or [""])[0], int):
                    self.assertEqual(parts(read(inserted(nest, path + (0,), 5))), parts(nest) + 1)
                for old in (None, True, 7, "x", []):
                    self.assertEqual(times(read(swapped(nest, old, [["new"]])), "new"), times(nest, old))
                self.assertEqual(parts(read(joined([nest] * 100))), 1 + 100 * parts(nest))
            except Large as large:
                self.assertEqual(large.what, "objects")
        for number_, entry in enumerate(entries(nest)[:3]):
            if entry.kind == "none":
                self.assertEqual(len(patched(nest, number_, True)), len(octets(nest)))

    def asked(self, nest, same):
        """Ask all that can be asked of a nest, and see that the answers fit together."""
        many = parts(nest)
        for place in (many - 1, many // 3, many // 7):
            path = path_at(nest, place)
            self.assertEqual(place_of(nest, path), place)
            self.assertEqual(parting(inner(nest, path), inner(same, path)), None)
            steps(nest, path)
        for value in (None, 0, "x", [], [None, None], {"k1": True}):
            found = where(nest, value)
            self.assertEqual(times(nest, value) > 0, found is not None)
        self.assertLessEqual(common(nest, same), different(nest))
        self.assertIsNone(parting(nest, same))
        shrunk = read(shrink(nest))
        self.assertTrue(shrunk == nest)
        self.assertEqual(sum(vars(account(nest)).values()), len(octets(nest)) - len(octets(shrunk)))
        if many <= 100_000 and depth(nest) <= 100:
            part(nest, (), most=100_000)

    def test_objects_that_overlap_a_thousandfold(self):
        # Everywhere begins an object with thousands of bytes or references.
        for marker, width in ((0xAF, 1), (0x5F, 1), (0x4F, 1), (0x6F, 1), (0xDF, 1), (0xAF, 8), (0xDF, 8)):
            body = ([marker, 0x11] + number(12_000 // width // 2, 2)) * 7_400
            places = [8 + 4 * at for at in range(4_000)]
            with self.subTest(marker=marker, width=width):
                file = framed(body, places, reference_width=width)
                word = "overlap" if width == 1 else "reference"
                self.torn(file, word)

    def test_ten_thousand_objects_at_one_place(self):
        for marker in (0xAF, 0x5F, 0x4F, 0xDF):
            body = [marker, 0x11] + number(14_000, 2) + [0x10] * 29_000
            self.torn(framed(body[:29_000], [8] * 10_000), "overlap")

    def test_one_long_object(self):
        self.sound(built([data([1] * 49_900)]))
        self.sound(built([text("x" * 49_900)]))
        self.sound(built([NONE, array([0] * 49_900)]))
        self.torn(built([array([0] * 49_900)]), "ring")
        self.torn(built([text("a"), dictionary([(0, 0)] * 24_900)]), "twice")

    def test_many_keys(self):
        keys = [text("k" + str(at)) for at in range(3_700)]
        pairs = [(at, at) for at in reversed(range(3_700))]
        file = built(keys + [dictionary(pairs, 2)], reference_width=2)
        self.assertEqual(find(self.sound(file), ("k77",)), 77)

    def test_long_keys_in_many_dictionaries(self):
        objects = [text("x" * 12_000 + last) for last in "ab"]
        objects += [dictionary([(0, 1), (1, 0)]) for _ in range(2_000)]
        objects += [dictionary([(1, 1), (0, 0)]) for _ in range(1_000)]
        self.sound(built(objects))

    def test_chains_and_doublings(self):
        self.sound(chain(9_990))
        self.sound(doubling(6_900))

    def test_rings(self):
        many = 6_000
        # One ring of all lists, which leads to each of them in thousands of ways.
        objects = [array([at + 1, 0], 2) for at in range(many)] + [NONE]
        self.torn(built(objects, reference_width=2), "ring")
        # Thousands of lists that lead to a ring but are in none.
        objects = [array([many], 2) for _ in range(many)] + [array([many], 2)]
        self.torn(built(objects, reference_width=2), "ring")
        # Thousands of rings of two.
        objects = [array([at ^ 1], 2) for at in range(many)]
        self.torn(built(objects, reference_width=2), "ring")
        # Thousands of lists that stand between two rings.
        objects = [array([at + 1], 2) for at in range(many)] + [array([many + 1], 2), array([many], 2)]
        objects += [array([many + 3, 0], 2), array([many + 2], 2)]
        self.torn(built(objects, reference_width=2), "ring")

    def test_many_references(self):
        # Each list holds all objects that come before it, or the last one many times.
        objects = [NONE] + [array(range(at)) for at in range(1, 256)]
        self.sound(built(objects))
        objects = [NONE] + [array([at] * 180) for at in range(250)]
        self.sound(built(objects))

    def test_numbers_of_thousands_of_digits(self):
        self.sound(built([NONE] + [array([at] * 4, 2) for at in range(4_000)], reference_width=2))
        self.sound(built([NONE, TRUE] + [array([at, at + 1], 2) for at in range(6_800)], reference_width=2))
        keys = [text("a"), text("b")]
        self.sound(built(keys + [dictionary([(1, at), (0, at - 1)], 2) for at in range(1, 4_400)], reference_width=2))

    def test_many_leaves(self):
        self.sound(built([integer(at) for at in range(7_000)] + [array(range(7_000), 2)], reference_width=2))
        self.sound(built([data([1] * 40_000), array([0] * 8_000)]))

    def test_values_at_many_places(self):
        deep = 0
        for _ in range(99):
            deep = [deep]
        self.sound(write([deep] * 190))
        self.sound(write([0] * 19_999))
        self.sound(write([{"a": at} for at in range(3_000)]))
        leaves = [Data([1] * 40_000), Wide([8364] * 20_000), "x" * 40_000]
        for value in leaves:
            for file in (write([value] * 19_999), write({"k" + str(at): value for at in range(9_000)})):
                self.assertGreater(len(file), 40_000)
        nest = read(write(leaves[0]))
        self.assertEqual(times(nest, [leaves[0]] * 19_999), 0)

    def test_often_in_a_row(self):
        nest = read(write([[0] * 98] * 190))
        for place in range(0, 18_811, 3):
            self.assertEqual(place_of(nest, path_at(nest, place)), place)
        nest = read(write([0] * 19_999))
        for place in range(0, 20_000, 3):
            self.assertEqual(place_of(nest, path_at(nest, place)), place)

    def test_joining_a_hundred_nests(self):
        # Thousands of objects each, all alike, and all different.
        first = read(write([0] + list(range(200, 9_000))))
        nests = [first] + [read(replaced(first, (0,), at)) for at in range(1, 20)]
        self.assertEqual(len(read(joined(nests * 5))), 8_841)
        nests = [read(write([[at, k] for k in range(150)])) for at in range(100)]
        with self.assertRaises(Large):
            joined(nests)

    def test_texts(self):
        data = [k & 255 for k in range(50_000)]
        for _ in range(20):
            self.assertEqual(read_hex(hex_text(data)), data)
        for text in ("[" * 2_000 + "]" * 2_000, '{"a":' * 600, '"' + "\\" * 1_999 + '"', "d" + "0" * 3_998,
                     "[" + ",".join(["0"] * 1_999) + "]", "w" + "00e9" * 999,
                     "{" + ",".join([f'"{at}":{at}' for at in range(300)]) + "}"):
            for _ in range(20):
                try:
                    value = read_value(text)
                    self.assertEqual(len(value_text(value)), len(text))
                except (BadText, Large):
                    pass
        path = (0, "a") * 1_000
        self.assertEqual(read_path(path_text(path)), path)
        self.assertEqual(len(value_text([["x" * 100] * 100] * 100)), 1_030_201)

    def test_many_changes_of_a_shelf(self):
        shelf = Shelf()
        shelf.keep("a", write([0]))
        for at in range(1_000):
            shelf.replace("a", (0,), at + 1)
            shelf.claim("a", "a")
        self.assertEqual(shelf.many(), 2_001)
        for _ in range(2_000):
            shelf.back()
        self.assertEqual(part(shelf.nest("a"), ()), [0])
        desk = Desk()
        desk.tell("keep a " + hex_text(doubling(6_900)))
        for row in ("parts a", "depth a", "different a", "same a a", "claim a a", "replace a 0/1 5", "insert a 0 5", "back",
                    "remove a 1", "find a 0/1", "hex a"):
            self.assertFalse(desk.tell(row)[0].startswith("refused"), row)

    def test_values(self):
        deep = 0
        for _ in range(99):
            deep = [deep]
        check([deep] * 190)
        check(["x" * 1_000] * 500)


if __name__ == "__main__":
    unittest.main()
