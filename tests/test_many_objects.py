"""Files of thousands of small objects, and values of about 20,000 parts: `read`, `times` and `where` stay as they are."""

import unittest

from making import NONE, TRUE, array, built, dictionary, integer, number, text, uid
from nestfile.errors import Large, NestError, NoBytes, NoValue, Torn
from nestfile.files import entries, octets, read, top, unused
from nestfile.paths import part
from nestfile.values import Data, Wide, check
from nestfile.webs import depth, different, parts, times, where
from nestfile.writing import shrink, write


def nested(many, items, last=None):
    """A file of lists of so many times the next object, around an integer."""
    objects = [array([at + 1] * items, 2) for at in range(many - 1)] + [integer(7) if last is None else last]
    return built(objects, 0, offset_width=2, reference_width=2)


def flat(leaf, many=10_000, top_one=None):
    """A file of many leaves and a list of one of them on top."""
    return built([leaf] * (many - 1) + [array([0], 2) if top_one is None else top_one], offset_width=2, reference_width=2)


def outcome(function, *arguments):
    try:
        return function(*arguments)
    except NestError as error:
        return type(error), vars(error)


class TestReading(unittest.TestCase):
    def torn(self, file, word, place):
        self.assertLessEqual(len(file), 50_000)
        self.assertEqual(outcome(read, file), (Torn, {"word": word, "place": place}))

    def test_lists_around_an_integer(self):
        for many, items, length in ((7_000, 1, 35_039), (4_000, 2, 28_037), (2_000, 4, 22_033)):
            file = nested(many, items)
            self.assertEqual(len(file), length)
            nest = read(file)
            counted = 1
            for _ in range(many - 1):
                counted = 1 + items * counted
            self.assertEqual((len(nest), top(nest), depth(nest), different(nest)), (many, 0, many - 1, many))
            self.assertEqual((parts(nest), times(nest, 7)), (counted, items ** (many - 1)))
            self.assertEqual(octets(nest), file)
            rows = [(one.kind, one.place, one.length, one.references) for one in entries(nest)]
            width = 1 + 2 * items
            self.assertEqual(rows, [("list", 8 + width * at, width, (at + 1,) * items) for at in range(many - 1)]
                             + [("integer", 8 + width * (many - 1), 2, ())])
            self.assertEqual(where(nest, [7] * items), (0,) * (many - 2))
            self.assertTrue(read(shrink(nest)) == nest)

    def test_leaves_and_a_list_on_top(self):
        for leaf, value in ((array([]), []), (TRUE, True), (NONE, None), (text(""), ""), (dictionary([]), {})):
            file = flat(leaf)
            self.assertEqual(len(file), 30_042)
            nest = read(file)
            self.assertEqual((len(nest), parts(nest), depth(nest), different(nest)), (10_000, 2, 1, 2))
            self.assertEqual(part(nest, ()), [value])
            self.assertEqual(unused(nest), list(range(1, 9_999)))
            self.assertTrue(nest == read(write([value])))

    def test_a_fault_in_the_last_object(self):
        for many, items in ((7_000, 1), (4_000, 2), (2_000, 4)):
            place = 8 + (1 + 2 * items) * (many - 1)
            for last, word, at in (
                    ([0x16, 0], "marker", 0), ([0x01, 0], "marker", 0), ([0x70, 0], "marker", 0), ([0x11, 0], "end", 0),
                    ([0xA1, 0], "end", 0), ([0x5F, 0x20], "size", 1), ([0xAF], "end", 0), ([0xDF, 0x13] + [255] * 8, "size", 1),
                    ([0x14] + [1] * 16, "range", 0), (uid(2 ** 64), "range", 0), ([0x52, 97, 200], "ascii", 2),
                    (array([many], 2), "reference", 1), (array([1, 2, many], 2), "reference", 5),
                    (dictionary([(1, 65_535)], 2), "reference", 3), (array([many - 1], 2), "ring", 0),
                    (dictionary([(0, 1)], 2), "key", 1)):
                self.torn(nested(many, items, last), word, place + at)
            # All lists are in the ring that the last one closes.
            self.torn(nested(many, items, array([0], 2)), "ring", 8)
            self.torn(nested(many, items, array([many - 3], 2)), "ring", 8 + (1 + 2 * items) * (many - 3))

    def test_a_fault_in_one_of_the_last_references(self):
        for many, items in ((7_000, 1), (4_000, 2), (2_000, 4)):
            file = nested(many, items)
            place = 8 + (1 + 2 * items) * (many - 2) + 1 + 2 * (items - 1)
            for wrong in (many, many + 1, 65_535):
                self.torn(file[:place] + number(wrong, 2) + file[place + 2:], "reference", place)

    def test_two_faults(self):
        # The first one by the number of the object counts, then overlaps, then keys, then rings.
        file = nested(7_000, 1)
        place = 8 + 3 * 6_998
        broken = file[:place] + [0xD1] + file[place + 1:]
        self.torn(broken, "overlap", place + 3)
        self.torn(broken[:8] + [0xA1, 255, 255] + broken[11:], "reference", 9)
        self.torn(file[:8] + [0xA1, 0, 0] + file[11:place] + [0x16] + file[place + 1:], "marker", place)
        self.torn(file[:8] + [0xA1, 0, 0] + file[11:], "ring", 8)

    def test_faults_in_files_of_leaves(self):
        for leaf in (array([]), TRUE):
            last = 8 + 9_999
            self.torn(flat(leaf, top_one=array([10_000], 2)), "reference", last + 1)
            self.torn(flat(leaf, top_one=array([9_999], 2)), "ring", last)
            self.torn(flat(leaf, top_one=dictionary([(0, 1)], 2)), "key", last + 1)
            file = flat(leaf)
            self.torn(file[:last - 1] + [0x0A] + file[last:], "marker", last - 1)
            self.torn(file[:last - 1] + [0x10] + file[last:], "overlap", last)
            table = last + 3
            self.torn(file[:table + 19_996] + number(7, 2) + file[table + 19_998:], "offset", table + 19_996)
            self.torn(file[:table + 19_998] + number(table, 2) + file[table + 20_000:], "offset", table + 19_998)
            self.torn(file[:table + 19_996] + number(8, 2) + file[table + 19_998:], "overlap", 8)

    def test_elements_that_are_no_bytes(self):
        file = nested(7_000, 1)
        for wrong in (256, -1, True, False, None, "1", [1], 1.0, (1,)):
            for place in (0, 21_000, 35_038):
                broken = file[:place] + [wrong] + file[place + 1:]
                self.assertEqual(outcome(read, broken), (NoBytes, {"place": place}))
        self.assertEqual(outcome(read, file[:9] + [True] + file[10:20] + [None] + file[21:]), (NoBytes, {"place": 9}))


class TestLookingFor(unittest.TestCase):
    def found(self, nest, value, many, first):
        self.assertEqual((times(nest, value), where(nest, value)), (many, first))

    def forms(self, many):
        """Values of so many parts."""
        return [[0] * (many - 1), [True] * (many - 1), ["a"] * (many - 1), [Data([])] * (many - 1),
                [[1, 2, 3]] * ((many - 1) // 4) + [0] * ((many - 1) % 4),
                [{"a": 1, "b": [2]}] * ((many - 1) // 4) + [None] * ((many - 1) % 4),
                {"k" + str(at): at for at in range(many - 1)}, {"k": [0] * (many - 2)}, [[[0]] * ((many - 1) // 2 - 1)] + [
                    0] * (1 + (many - 1) % 2), list(range(many - 1)), [str(at) for at in range(many - 1)]]

    def test_values_that_are_not_there(self):
        for many in (19_999, 20_000):
            for value in self.forms(many):
                for nest in (read(write([7, 7])), read(nested(2_000, 4)), read(flat(TRUE))):
                    self.found(nest, value, 0, None)

    def test_values_that_are_there(self):
        for value in self.forms(4_990):
            nest = read(write([[value, 5], value]))
            self.found(nest, value, 2, (0, 0))
            self.found(nest, [value, 5], 1, (0,))
            self.found(nest, [value, 6], 0, None)
            copied = part(nest, (1,))
            self.found(nest, copied, 2, (0, 0))

    def test_limits(self):
        for form in self.forms(20_001):
            if isinstance(form, list) or len(form) == 1:
                for function in (times, where):
                    self.assertEqual(outcome(function, read(write(7)), form), (Large, {"what": "parts"}))
        self.assertIsNone(check([0] * 19_999))

    def test_wrong_parts(self):
        nest = read(write([7, 7]))
        for value, path in (([0] * 19_998 + [()], (19_998,)), ([[1, 2, 3]] * 4_000 + [[1, 2, 1.5]], (4_000, 2)),
                            ([0] * 30_000 + ["%"], (30_000,)), ([(), "%"] + [0] * 19_000, (0,)),
                            ({**{"k" + str(at): 0 for at in range(9_000)}, "z": 2 ** 64}, ("z",))):
            for function in (times, where):
                self.assertEqual(outcome(function, nest, value), (NoValue, {"path": path}))

    def test_kinds_are_told_apart(self):
        nest = read(write([True, 1, "1", Wide([49, 233]), None, [True], [1], {"1": 1}, {"1": True}]))
        for at, value in enumerate([True, 1, "1", Wide([49, 233]), None, [True], [1], {"1": 1}, {"1": True}]):
            self.assertEqual(where(nest, value), (at,))
        self.assertEqual([times(nest, value) for value in (True, 1, "1", False, 0, "", [0], {"1": "1"})],
                         [3, 3, 1, 0, 0, 0, 0, 0])

    def test_nothing_is_changed(self):
        nest = read(write([[1, 2], {"a": [1, 2]}]))
        before = octets(nest)
        value = [[1, 2], 3, {"b": [1, 2]}]
        for _ in range(3):
            self.found(nest, value, 0, None)
            self.found(nest, [1, 2], 2, (0,))
        self.assertEqual(value, [[1, 2], 3, {"b": [1, 2]}])
        self.assertEqual((octets(nest), len(nest), different(nest)), (before, 6, 6))


if __name__ == "__main__":
    unittest.main()
