"""Promise [15]: what stands where a path leads."""

import unittest

import slow
from making import (NONE, TRUE, array, built, chain, data, date, dictionary, doubling, integer, number, real, text,
                    uid, wide)
from nestfile.errors import Large, NoPart
from nestfile.files import entries, find, gaps, octets, read, top, unused
from nestfile.paths import inner, part, steps
from nestfile.values import Data, Date, Real, Uid, Wide, alike
from nestfile.webs import depth, parts, path_at
from nestfile.writing import account, shrink, write

EIGHT = [0, 1, 2, 3, 4, 5, 6, 7]
VALUE = {"b": [1, [], {"x": True}], "a": [[Data([1]), Wide([233])], {}], "": "a"}
# Steps that cannot be taken from a list of two items, from a dictionary without these keys, or from a leaf.
NO_STEPS = [True, False, -1, -2, 2, 10 ** 3_999, -(10 ** 3_999), "c", "0", "1", "True", None, 0.0, (0,), (), "\u00e9"]
LEAVES = [NONE, TRUE, integer(5), text("abc"), text(""), wide([233, 234]), data([1, 2, 3]), data([]), uid(1),
          real([0] * 8), date([0] * 8), array([]), dictionary([])]


def boxes(value):
    """All lists and dictionaries of a value, one for each place."""
    return [one for _, one in slow.walk(value) if isinstance(one, (list, dict))]


class TestCase(unittest.TestCase):
    def raises(self, error, fields, function, *arguments, **named):
        with self.assertRaises(error) as caught:
            function(*arguments, **named)
        self.assertEqual(vars(caught.exception), fields)

    def no_part(self, nest, path, length):
        for function in (part, steps, inner, find):
            self.raises(NoPart, {"length": length}, function, nest, path)
            self.raises(NoPart, {"length": length}, function, nest=nest, path=list(path))


class TestPart(TestCase):
    def test_the_example(self):
        nest = read(write({"b": 1, "a": [True]}))
        self.assertEqual((part(nest, ("a",)), steps(nest, ())), ([True], ["a", "b"]))

    def test_each_part(self):
        nest = read(write(VALUE))
        for path, one in slow.walk(VALUE):
            self.assertIs(alike(part(nest, path), one), True)
            self.assertIs(alike(part(nest=nest, path=list(path), most=20_000), one), True)

    def test_all_kinds(self):
        for one in (None, True, False, 0, 1, -5, 2 ** 64 - 1, "", "a b", Wide([233]), Data([]), Data([0, 255]), Uid(7),
                    Real(EIGHT), Real(EIGHT[:4]), Date(EIGHT), [], {}):
            found = part(read(write([one])), (0,))
            self.assertEqual(slow.sign(found), slow.sign(one))
        found = part(read(built([wide([97, 98]), wide([97, 233]), text("a\x00"), array([0, 1, 2])])), ())
        self.assertEqual(found, ["ab", Wide([97, 233]), Wide([97, 0])])

    def test_paths_that_cannot_be_taken(self):
        nest = read(write([[1, 2], {"a": [3]}]))
        for step in NO_STEPS:
            self.no_part(nest, (step,), 0)
            self.no_part(nest, (0, step), 1)
            self.no_part(nest, (1, step), 1)
            self.no_part(nest, (1, "a", 0, step), 3)
            self.no_part(nest, (1, step, "a", 0), 1)
        for leaf in LEAVES:
            nest = read(built([leaf, array([0])]))
            for step in NO_STEPS + [0, 1, "a", ""]:
                self.no_part(nest, (0, step), 1)
                self.no_part(nest, (0, step, step), 1)
        nest = read(write({"1": [0, 1], "True": 5}))
        for step in (1, True, 0, "2"):
            self.no_part(nest, (step, 0), 0)

    def test_depths(self):
        for many in (101, 102, 300, 9_990):
            nest = read(chain(many))
            deep = part(nest, (0,) * (many - 101))
            self.assertEqual(slow.depth(deep), 100)
            for taken in {0, max(0, many - 102)} - {many - 101}:
                self.raises(Large, {"what": "depth"}, part, nest, (0,) * taken)
        # The depth is that of the part, not of the value.
        nest = read(built([NONE] + [array([at]) for at in range(101)] + [array([0, 101])]))
        self.assertIsNone(part(nest, (0,)))
        self.raises(Large, {"what": "depth"}, part, nest, (1,))
        self.assertEqual(slow.depth(part(nest, (1, 0))), 100)

    def test_numbers_of_parts(self):
        nest = read(built([NONE, array([0] * 19_999), array([0] * 20_000), array([1, 2])]))
        self.assertEqual(part(nest, (0,)), [None] * 19_999)
        self.raises(Large, {"what": "parts"}, part, nest, (1,))
        self.raises(Large, {"what": "parts"}, part, nest, ())
        self.assertEqual(part(nest, (1,), most=20_001), [None] * 20_000)
        self.assertEqual(len(boxes(part(nest, (), most=40_002))), 3)
        self.raises(Large, {"what": "parts"}, part, nest, (), most=40_001)
        self.raises(Large, {"what": "parts"}, part, read(doubling(15)), ())
        self.assertEqual(len(list(slow.walk(part(read(doubling(14)), ())))), 2 ** 14 - 1)

    def test_most_at_its_edges(self):
        nest = read(write(VALUE))
        for path, one in slow.walk(VALUE):
            many = len(list(slow.walk(one)))
            self.assertEqual(part(nest, path, most=many), one)
            self.assertEqual(part(nest, path, most=many + 1), one)
            self.assertEqual(part(nest, path, most=10 ** 3_999), one)
            self.raises(Large, {"what": "parts"}, part, nest, path, most=many - 1)
            self.raises(Large, {"what": "parts"}, part, nest, path, most=0)

    def test_most_is_named(self):
        with self.assertRaises(TypeError):
            part(read(write(5)), (), 20_000)

    def test_the_order_of_the_errors(self):
        deep = read(built([NONE, array([0, 0], 2)] + [array([at, at], 2) for at in range(1, 200)], reference_width=2))
        self.raises(NoPart, {"length": 1}, part, deep, (0, 2), most=0)
        self.raises(Large, {"what": "depth"}, part, deep, (0,), most=0)
        self.raises(Large, {"what": "parts"}, part, deep, (0,) * 100)
        self.raises(Large, {"what": "parts"}, part, deep, (0,) * 200, most=0)
        self.raises(Large, {"what": "depth"}, part, read(doubling(6_900)), ())

    def test_no_list_or_dictionary_stands_at_two_places(self):
        shared = [text("k"), integer(1), array([1, 1]), dictionary([(0, 2)]), array([2, 3, 2, 3]), array([]),
                  dictionary([]), array([4, 4, 5, 5, 6, 6])]
        nest = read(built(shared))
        value = part(nest, ())
        self.assertEqual(len(boxes(value)), 19)
        self.assertEqual(len({id(one) for one in boxes(value)}), 19)
        value[0][1]["k"].append(5)
        value[2].append(5)
        value[4]["a"] = 5
        lists = [[1, 1], {"k": [1, 1]}] * 2
        self.assertEqual(value, [[[1, 1], {"k": [1, 1, 5]}, [1, 1], {"k": [1, 1]}], lists, [5], [], {"a": 5}, {}])
        self.assertEqual(part(nest, ()), [lists, lists, [], [], {}, {}])

    def test_nothing_that_is_returned_changes_the_nest(self):
        nest = read(write([Wide([233]), Data([1]), Uid(5), Real(EIGHT), Date(EIGHT)]))
        for one in part(nest, ()):
            for name in vars(one):
                setattr(one, name, (1, 2))
        self.assertEqual(part(nest, ()), [Wide([233]), Data([1]), Uid(5), Real(EIGHT), Date(EIGHT)])
        path = [0]
        part(nest, path)
        inner(nest, path)
        self.assertEqual(path, [0])
        steps(nest, ()).clear()
        self.assertEqual(steps(nest, ()), [0, 1, 2, 3, 4])

    def test_a_long_leaf_at_thousands_of_places(self):
        nest = read(built([data([1] * 20_000), wide([8364] * 5_000), array([0, 1] * 9_000)]))
        value = part(nest, ())
        self.assertEqual(value[17_998:], [Data([1] * 20_000), Wide([8364] * 5_000)])


class TestSteps(TestCase):
    def test_lists_and_dictionaries(self):
        nest = read(write(VALUE))
        for path, one in slow.walk(VALUE):
            found = steps(nest, path)
            self.assertIsInstance(found, list)
            self.assertEqual(found, [step for step, _ in slow.steps(one)])
            self.assertEqual(steps(nest=nest, path=list(path)), found)
            for step in found:
                find(nest, path + (step,))

    def test_keys_ascend_whatever_the_file_does(self):
        keys = ["b", "a10", "", "a9", "B", "a"]
        nest = read(built([text(key) for key in keys] + [NONE, dictionary([(at, 6) for at in range(6)])]))
        self.assertEqual(steps(nest, ()), ["", "B", "a", "a10", "a9", "b"])
        self.assertEqual(steps(read(built([wide([98]), text("a"), dictionary([(0, 1), (1, 0)])])), ()), ["a", "b"])

    def test_parts_without_items(self):
        for leaf in LEAVES:
            nest = read(built([leaf, array([0, 0])]))
            self.assertEqual(steps(nest, (1,)), [])
            self.assertEqual(steps(nest, ()), [0, 1])

    def test_a_part_that_is_too_large_to_return(self):
        self.assertEqual(steps(read(doubling(6_900)), (0, 1, 0)), [0, 1])
        self.assertEqual(steps(read(built([NONE, array([0] * 40_000)])), ()), list(range(40_000)))


class TestInner(TestCase):
    def inner_of(self, file, path, expected_top):
        nest = read(file)
        found = inner(nest, path)
        self.assertEqual(octets(found), file[:-16] + number(expected_top, 8) + file[-8:])
        self.assertEqual(octets(nest), file)
        again = read(octets(found))
        self.assertTrue(again == found)
        for asked in (top, unused, gaps, entries, parts, depth, shrink, account, len):
            self.assertEqual(asked(found), asked(again))
        return found

    def test_each_part(self):
        file = built([text("b"), integer(7), TRUE, text("a"), array([1, 2, 1]), dictionary([(0, 4), (3, 6)]),
                      array([4, 0, 4]), NONE], 5, gaps={2: [1, 2]})
        nest = read(file)
        value = part(nest, ())
        for path, one in slow.walk(value):
            found = self.inner_of(file, path, find(nest, path))
            self.assertEqual(part(found, ()), one)
            self.assertTrue(found == read(write(one)))
            self.assertTrue(inner(nest=nest, path=list(path)) == found)
            self.assertEqual(find(found, ()), find(nest, path))

    def test_the_number_is_that_of_the_object(self):
        file = built([integer(1), integer(1, 2), array([1, 0])])
        self.inner_of(file, (), 2)
        self.inner_of(file, (0,), 1)
        self.inner_of(file, (1,), 0)
        self.assertTrue(inner(read(file), (0,)) == inner(read(file), (1,)))

    def test_inner_of_inner(self):
        file = built([NONE, array([0, 0]), array([1, 0]), array([2, 1]), TRUE], 3)
        outer = read(file)
        first = inner(outer, (0,))
        second = inner(first, (0,))
        self.assertEqual(octets(second), file[:-16] + number(1, 8) + file[-8:])
        self.assertEqual(unused(second), [2, 3, 4])
        self.assertTrue(second == inner(outer, (0, 0)) == inner(outer, (1,)))
        self.assertEqual((parts(outer), parts(first), parts(second)), (9, 5, 3))
        self.assertEqual([path_at(first, at) for at in range(5)], [(), (0,), (0, 0), (0, 1), (1,)])
        self.raises(NoPart, {"length": 0}, inner, second, (2,))
        self.assertEqual(octets(inner(outer, ())), file)

    def test_values_that_cannot_be_written_out(self):
        nest = inner(read(doubling(6_900)), (0, 1) * 3_000)
        self.assertEqual((parts(nest), depth(nest)), (2 ** 900 - 1, 899))
        nest = inner(read(chain(9_990)), (0,) * 9_000)
        self.assertEqual((parts(nest), depth(nest), top(nest)), (990, 989, 989))
        self.assertEqual(top(inner(read(built([NONE, array([0] * 300)], 1)), (299,))), 0)


if __name__ == "__main__":
    unittest.main()
