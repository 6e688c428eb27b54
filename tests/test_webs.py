"""Promises [11], [12] and [16]: sizes, places and partings of values that are never written out."""

import unittest

import slow
from making import (FALSE, NONE, TRUE, array, built, chain, data, date, dictionary, doubling, integer, real, text, uid,
                    wide)
from nestfile.errors import Large, NoPart, NoPlace, NoValue
from nestfile.files import octets, read
from nestfile.values import Data, Date, Real, Uid, Wide
from nestfile.webs import common, depth, different, parting, parts, path_at, place_of, times, where
from nestfile.writing import write

EIGHT = [0, 1, 2, 3, 4, 5, 6, 7]
LEAVES = [None, True, False, 0, 1, -1, "", "a", Wide([233]), Data([]), Data([1]), Uid(0), Uid(1), Real(EIGHT),
          Real(EIGHT[:4]), Date(EIGHT), [], {}]
# {"b": [1, [], "a"], "a": {"a": [1, [], "a"], "": True}}: the file has the keys in another order, an integer,
# a string and a list twice, and unused objects.
MIXED = [text("b"), text("a"), text(""), integer(1), integer(1, 3), wide([97]), TRUE, array([]),
         array([3, 7, 5]), array([4, 7, 1]), dictionary([(1, 9), (2, 6)]), NONE, array([11, 10]),
         dictionary([(1, 10), (0, 8)])]
MIXED_VALUE = {"b": [1, [], "a"], "a": {"a": [1, [], "a"], "": True}}
MANY = 6_900
DEEP = 9_990


def mixed():
    return read(built(MIXED))


class TestCase(unittest.TestCase):
    def raises(self, error, fields, function, *arguments, **named):
        with self.assertRaises(error) as caught:
            function(*arguments, **named)
        self.assertEqual(vars(caught.exception), fields)


class TestSizes(TestCase):
    def sizes(self, value, expected):
        nest = read(write(value))
        self.assertEqual((parts(nest), depth(nest), different(nest)), expected)

    def test_parts_without_items(self):
        for leaf in LEAVES:
            self.sizes(leaf, (1, 0, 1))
            self.sizes([leaf, leaf], (3, 1, 2))
            self.sizes({"k": leaf}, (2, 1, 3))

    def test_all_kinds_are_different_parts(self):
        self.sizes(LEAVES, (len(LEAVES) + 1, 1, len(LEAVES) + 1))
        self.sizes([LEAVES, LEAVES], (2 * len(LEAVES) + 3, 2, len(LEAVES) + 2))

    def test_likeness(self):
        self.sizes([True, 1], (3, 1, 3))
        self.sizes([1, 1, True], (4, 1, 3))
        self.sizes([False, 0, None, "", Data([]), [], {}], (8, 1, 8))
        self.sizes([[], {}, [], {}], (5, 1, 3))
        self.sizes(["a", Wide([97, 10])], (3, 1, 3))
        self.sizes([{"a": 1, "b": 2}, {"b": 2, "a": 1}], (7, 2, 6))
        self.sizes([[1, 2], [2, 1]], (7, 2, 5))

    def test_keys_are_no_parts_but_count_among_the_different(self):
        self.sizes({"a": 1}, (2, 1, 3))
        self.sizes({"a": "a"}, (2, 1, 2))
        self.sizes({"a": "b", "b": "a"}, (3, 1, 3))
        self.sizes([{"a": 1}, {"a": 2}, "a"], (6, 2, 6))

    def test_depth_is_that_of_the_deepest_part(self):
        self.sizes([1, [2, {"a": [3]}], 4], (8, 4, 9))
        self.sizes([[[[]]], []], (5, 3, 4))

    def test_a_file_with_unused_and_repeated_objects(self):
        self.assertEqual((parts(mixed()), depth(mixed()), different(mixed())), (11, 3, 9))
        value = [part for _, part in slow.walk(MIXED_VALUE)]
        self.assertEqual((len(value), slow.depth(MIXED_VALUE), slow.different(MIXED_VALUE)), (11, 3, 9))

    def test_by_keyword(self):
        self.assertEqual((parts(nest=mixed()), depth(nest=mixed()), different(nest=mixed())), (11, 3, 9))

    def test_the_example_of_doubling(self):
        nest = read(doubling(4, integer(0)))
        self.assertEqual((parts(nest), depth(nest), different(nest)), (15, 3, 4))

    def test_astronomical_numbers_are_exact(self):
        nest = read(doubling(MANY))
        self.assertEqual((parts(nest), depth(nest), different(nest)), (2 ** MANY - 1, MANY - 1, MANY))
        # Four times as many with each list, and keys beside them.
        objects = [text("a"), text("b"), text("c")] + [dictionary([(0, 0), (1, 0), (2, 0)], 2)]
        objects += [dictionary([(2, at), (0, at), (1, at)], 2) for at in range(3, 2_300)]
        nest = read(built(objects, reference_width=2))
        self.assertEqual((parts(nest), depth(nest)), ((3 ** 2_299 - 1) // 2, 2_298))
        self.assertEqual(different(nest), 2_301)

    def test_chains(self):
        nest = read(chain(DEEP))
        self.assertEqual((parts(nest), depth(nest), different(nest)), (DEEP, DEEP - 1, DEEP))

    def test_any_object_may_be_the_top_one(self):
        self.assertEqual([parts(read(built(MIXED, at))) for at in range(len(MIXED))],
                         [1, 1, 1, 1, 1, 1, 1, 1, 4, 4, 6, 1, 8, 11])


class TestFinding(TestCase):
    def found(self, nest, value, many, path):
        self.assertEqual((times(nest, value), where(nest, value)), (many, path))
        if path is not None:
            self.assertIsInstance(where(nest, value), tuple)

    def test_the_example(self):
        nest = read(write([[5], {"a": 5}]))
        self.found(nest, 5, 2, (0, 0))
        self.found(nest, True, 0, None)

    def test_each_part(self):
        value = {"b": [LEAVES, [True, 1, 1]], "a": LEAVES, "c": {"a": "a"}}
        nest = read(write(value))
        for _, part in slow.walk(value):
            self.found(nest, part, slow.times(value, part), slow.where(value, part))

    def test_likeness(self):
        self.found(read(write([1, [True]])), True, 1, (1, 0))
        self.found(read(write([True, [1]])), 1, 1, (1, 0))
        self.found(read(write([False, None, "", [], {}])), 0, 0, None)
        self.found(read(write(["ab", Wide([97, 98, 10])])), Wide([97, 98, 10]), 1, (1,))
        self.found(read(write([{}, []])), [], 1, (1,))
        self.found(read(write([[], {}])), {}, 1, (1,))
        self.found(read(write([Real(EIGHT), Date(EIGHT)])), Date(EIGHT), 1, (1,))
        self.found(read(write([{"b": 1, "a": 2}, 2])), {"a": 2, "b": 1}, 1, (0,))
        self.found(read(write([1, 2])), [2, 1], 0, None)
        self.found(read(write([1, 2])), [1], 0, None)
        self.found(read(built([integer(1, 4), array([0])])), 1, 1, (0,))
        self.found(read(built([wide([97, 98]), array([0])])), "ab", 1, (0,))

    def test_keys_are_no_parts(self):
        nest = read(write({"a": 1, "b": ["a"]}))
        self.found(nest, "a", 1, ("b", 0))
        self.found(nest, "b", 0, None)
        self.found(read(write({"a": "a"})), "a", 1, ("a",))

    def test_the_value_itself(self):
        for value in LEAVES + [MIXED_VALUE]:
            self.found(read(write(value)), value, 1, ())

    def test_unused_and_repeated_objects(self):
        self.found(mixed(), None, 0, None)
        self.found(mixed(), [None, {"a": [1, [], "a"], "": True}], 0, None)
        self.found(mixed(), 1, 2, ("a", "a", 0))
        self.found(mixed(), [1, [], "a"], 2, ("a", "a"))
        self.found(mixed(), "a", 2, ("a", "a", 2))
        self.found(mixed(), "b", 0, None)
        self.found(mixed(), [], 2, ("a", "a", 1))
        self.found(read(built(MIXED, 9)), 1, 1, (0,))
        self.found(read(built(MIXED, 9)), MIXED_VALUE, 0, None)

    def test_the_first_path_in_the_order_of_paths(self):
        # Not the shortest one, and not the one with the least steps as texts.
        self.found(read(write([[[[7]]], 7])), 7, 2, (0, 0, 0, 0))
        self.found(read(write({"b": 7, "a": [0, 7]})), 7, 2, ("a", 1))
        self.found(read(write({"a9": 7, "a10": [7]})), 7, 2, ("a10", 0))
        self.found(read(write([0] * 11 + [[7]] * 2)), 7, 2, (11, 0))
        self.found(read(write([{"B": {}, "a": 7}, 7])), 7, 2, (0, "a"))

    def test_more_places_than_can_be_written_out(self):
        nest = read(doubling(MANY))
        self.found(nest, None, 2 ** (MANY - 1), (0,) * (MANY - 1))
        self.found(nest, [None, None], 2 ** (MANY - 2), (0,) * (MANY - 2))
        self.found(nest, [None], 0, None)
        self.found(nest, True, 0, None)
        # Lists [x, x, 1] around [1, true].
        objects = [TRUE, integer(1), array([1, 0], 2)] + [array([at, at, 1], 2) for at in range(2, 1_001)]
        nest = read(built(objects, reference_width=2))
        self.found(nest, True, 2 ** 999, (0,) * 999 + (1,))
        self.found(nest, 1, 2 ** 999 + 2 ** 999 - 1, (0,) * 1_000)

    def test_chains(self):
        nest = read(chain(DEEP))
        self.found(nest, [], 1, (0,) * (DEEP - 1))
        self.found(nest, [[]], 1, (0,) * (DEEP - 2))
        self.found(nest, {}, 0, None)

    def test_errors_of_check(self):
        deep = []
        for _ in range(101):
            deep = [deep]
        for function in (times, where):
            self.raises(NoValue, {"path": ()}, function, mixed(), 1.5)
            self.raises(NoValue, {"path": (0, "a")}, function, mixed(), [{"a": (), "b": 0}])
            self.raises(NoValue, {"path": ()}, function, nest=mixed(), value={1: 1})
            self.raises(Large, {"what": "depth"}, function, mixed(), deep)
            self.raises(Large, {"what": "parts"}, function, mixed(), [0] * 20_000)
        self.raises(Large, {"what": "depth"}, where, read(chain(DEEP)), deep)

    def test_large_values(self):
        nest = read(write([[0] * 19_998]))
        self.found(nest, [0] * 19_998, 1, (0,))
        self.found(nest, 0, 19_998, (0, 0))
        self.found(nest, list(range(19_999)), 0, None)
        long_ones = [Data([1] * 5_000 + [at] + [1] * 5_000) for at in range(4)]
        nest = read(write(long_ones * 3))
        for at, one in enumerate(long_ones):
            self.found(nest, one, 3, (at,))
            self.found(nest, Data(list(one.octets)), 3, (at,))
        self.found(nest, Data([1] * 10_001), 3, (1,))
        self.found(nest, Data([2] * 10_001), 0, None)
        self.found(nest, Wide([1] * 10_001), 0, None)

    def test_nothing_is_changed(self):
        nest, value = mixed(), [1, [], "a"]
        before = octets(nest)
        times(nest, value)
        times(nest, [7, value])
        where(nest, [7, value])
        self.assertEqual(value, [1, [], "a"])
        self.assertEqual(octets(nest), before)
        self.assertEqual(times(nest, 7), 0)
        self.assertTrue(nest == mixed())


class TestCommon(TestCase):
    def shared(self, one, other, many):
        one, other = read(write(one)), read(write(other))
        self.assertEqual((common(one, other), common(other, one)), (many, many))

    def test_the_example(self):
        self.shared([1, 2], [2, 3], 1)

    def test_different_parts_count_once(self):
        self.shared([1, 1, 1], [1, 1], 1)
        self.shared([1, [1, 2]], [1, 2], 3)
        self.shared([1, [1, 2]], [[1, 2], 1], 3)
        self.shared([1, 2], [1, 2], 3)
        self.shared(LEAVES, [LEAVES], len(LEAVES) + 1)
        self.shared([[], {}], [{}, []], 2)

    def test_likeness(self):
        self.shared([True, 0], [1, False], 0)
        self.shared([None, ""], [{}, []], 0)
        self.shared([Wide([97, 10])], ["a"], 0)
        self.shared({"b": 1, "a": 2}, [{"a": 2, "b": 1}], 3)

    def test_keys_are_no_parts(self):
        self.shared({"a": 1}, ["a"], 0)
        self.shared({"a": 1}, {"a": 2}, 0)
        self.shared({"a": "b"}, {"b": "a"}, 0)
        self.shared({"a": "a"}, ["a"], 1)
        self.shared([{"a": 1}, "b"], [{"b": 2}, "a"], 0)

    def test_unused_objects_are_no_parts(self):
        one = read(built([NONE, TRUE, integer(5), array([1])]))
        other = read(built([NONE, integer(5, 2), TRUE, array([0, 2])]))
        self.assertEqual((common(one, other), common(other, one)), (1, 1))
        self.assertEqual(common(nest=mixed(), other=read(built(MIXED, 12))), 6)

    def test_values_that_cannot_be_written_out(self):
        one, other = read(doubling(MANY)), read(doubling(MANY - 400))
        self.assertEqual(common(one, other), MANY - 400)
        self.assertEqual(common(one, read(doubling(MANY, TRUE))), 0)
        self.assertEqual(common(read(chain(DEEP)), read(chain(77))), 77)
        self.assertEqual(common(one, one), MANY)


class TestPlaces(TestCase):
    def test_the_example(self):
        nest = read(write([[5], {"a": 5}]))
        self.assertEqual((path_at(nest, 4), place_of(nest, (1,))), ((1, "a"), 3))

    def test_the_order_of_paths(self):
        value = {"b": [1, [2, {}], "c"], "B": {"z": [], "a": [[0], 1]}, "": True, "a9": 1, "a10": [[]] * 12}
        for nest, written in ((read(write(value)), value), (mixed(), MIXED_VALUE)):
            paths = [path for path, _ in slow.walk(written)]
            self.assertEqual(paths, sorted(paths))
            self.assertEqual(len(paths), parts(nest))
            for place, path in enumerate(paths):
                self.assertEqual(path_at(nest, place), path)
                self.assertIsInstance(path_at(nest, place), tuple)
                self.assertEqual(place_of(nest, path), place)
                self.assertEqual(place_of(nest, list(path)), place)

    def test_places_that_there_are_not(self):
        for value, many in ((0, 1), ([], 1), ([[5], {"a": 5}], 5)):
            nest = read(write(value))
            self.assertEqual(path_at(nest, 0), ())
            for place in (-1, -2, many, many + 1, -(10 ** 3_999), 10 ** 3_999):
                self.raises(NoPlace, {"place": place}, path_at, nest, place)
            self.raises(NoPlace, {"place": many}, path_at, nest=nest, place=many)

    def test_paths_that_cannot_be_taken(self):
        nest = read(write([[5], {"a": 5}]))
        for path, length in (((2,), 0), ((-1,), 0), ((True,), 0), (("a",), 0), ((0, 1), 1), ((0, False), 1),
                             ((0, 0, 0), 2), ((1, "b"), 1), ((1, 0), 1), ((1, "a", "a", 7), 2)):
            self.raises(NoPart, {"length": length}, place_of, nest, path)
            self.raises(NoPart, {"length": length}, place_of, nest=nest, path=list(path))

    def test_places_of_thousands_of_digits(self):
        nest = read(doubling(MANY))
        many = 2 ** MANY - 1
        self.assertEqual(path_at(nest, many - 1), (1,) * (MANY - 1))
        self.assertEqual(place_of(nest, (1,) * (MANY - 1)), many - 1)
        self.assertEqual(path_at(nest, MANY - 1), (0,) * (MANY - 1))
        self.assertEqual(path_at(nest, 2 ** (MANY - 1)), (1,))
        self.assertEqual(path_at(nest, 2 ** (MANY - 1) - 1), (0,) + (1,) * (MANY - 2))
        for place in (many // 3, many // 7 * 3, 10 ** 2_000 + 12_345):
            path = path_at(nest, place)
            self.assertEqual(place_of(nest, path), place)
        for place in (many, many + 1, 2 * many, -1, -many):
            self.raises(NoPlace, {"place": place}, path_at, nest, place)
        self.raises(NoPart, {"length": MANY - 1}, place_of, nest, (0,) * MANY)

    def test_chains(self):
        nest = read(chain(DEEP))
        for place in (0, 1, 5_000, DEEP - 1):
            self.assertEqual(path_at(nest, place), (0,) * place)
            self.assertEqual(place_of(nest, [0] * place), place)
        self.raises(NoPlace, {"place": DEEP}, path_at, nest, DEEP)
        self.raises(NoPart, {"length": DEEP - 1}, place_of, nest, (0,) * DEEP)

    def test_long_lists_and_dictionaries(self):
        nest = read(write([[], [0] * 19_000, [1]]))
        for place, path in ((1, (0,)), (2, (1,)), (3, (1, 0)), (19_002, (1, 18_999)), (19_003, (2,)), (19_004, (2, 0))):
            self.assertEqual(path_at(nest, place), path)
            self.assertEqual(place_of(nest, path), place)
        nest = read(write({"k" + str(at): at for at in range(2_000)}))
        for place, key in enumerate(sorted("k" + str(at) for at in range(2_000))):
            self.assertEqual(path_at(nest, place + 1), (key,))
            self.assertEqual(place_of(nest, (key,)), place + 1)

    def test_a_path_is_not_changed(self):
        path = ["a", "a", 1]
        place_of(mixed(), path)
        self.assertEqual(path, ["a", "a", 1])


class TestParting(TestCase):
    def parts_at(self, one, other, path):
        one, other = read(write(one)), read(write(other))
        for found in (parting(one, other), parting(other, one)):
            self.assertEqual(found, path)
            if path is not None:
                self.assertIsInstance(found, tuple)

    def test_the_example(self):
        self.parts_at([1, {"a": 2}], [1, {"a": 3}], (1, "a"))

    def test_equal_nests(self):
        for value in LEAVES + [LEAVES, MIXED_VALUE]:
            self.parts_at(value, value, None)
        self.assertIsNone(parting(mixed(), read(write(MIXED_VALUE))))
        self.assertIsNone(parting(nest=read(write(MIXED_VALUE)), other=mixed()))
        self.parts_at({"a": 1, "b": 2}, {"b": 2, "a": 1}, None)

    def test_parts_of_different_kinds_and_worths(self):
        for at, one in enumerate(LEAVES):
            for other in LEAVES[:at] + LEAVES[at + 1:]:
                self.parts_at(one, other, ())
                self.parts_at([0, {"k": one}, one], [0, {"k": other}, one], (1, "k"))
        self.parts_at([], [0], ())
        self.parts_at({}, [0], ())
        self.parts_at("a", {"a": 0}, ())
        self.parts_at([True], [1], (0,))
        self.parts_at(["a"], [Wide([97, 10])], (0,))

    def test_lists_of_different_lengths(self):
        self.parts_at([1, 2], [1, 2, 3], ())
        self.parts_at([1, [2, 3], 4], [1, [2], 5], (1,))
        # The length goes before the items.
        self.parts_at([1, 2], [0, 2, 3], ())

    def test_dictionaries_with_different_keys(self):
        self.parts_at({"a": 1}, {"b": 1}, ())
        self.parts_at({"a": 1}, {"a": 1, "b": 1}, ())
        self.parts_at([{"a": 1, "b": 2}], [{"a": 0, "c": 2}], (0,))
        self.parts_at([{"a": 1, "b": 2}, 0], [{"b": 2, "a": 0}, 1], (0, "a"))
        # Keys that are also parts, of one value or of both.
        self.parts_at(["a", "b", {"a": 1}], ["a", "b", {"b": 1}], (2,))
        self.parts_at(["a", {"a": 1}], ["b", {"b": 1}], (0,))

    def test_the_first_path_in_the_order_of_paths(self):
        self.parts_at([[[1]], 1], [[[2]], 2], (0, 0, 0))
        self.parts_at({"b": 1, "a": [0, [1]]}, {"b": 2, "a": [0, [2]]}, ("a", 1, 0))
        self.parts_at({"a9": 1, "a10": [0]}, {"a9": 2, "a10": []}, ("a10",))
        self.parts_at([[1, 2], [3, []]], [[1, 2], [4, [0]]], (1, 0))
        self.parts_at([[1, 2], [3, []]], [[1, 2], [3, [0]]], (1, 1))

    def test_unused_and_repeated_objects(self):
        # [[7, 7], [7, 7]] and [[7, 7], [7, 8]].
        one = read(built([integer(7), integer(7, 4), array([0, 1]), array([1, 0]), array([2, 3]), integer(8)], 4))
        other = read(built([integer(7), array([0, 0]), integer(8), array([0, 2]), array([1, 3])]))
        self.assertEqual((parting(one, other), parting(other, one)), ((1, 1), (1, 1)))

    def test_other_objects(self):
        leaves = [NONE, TRUE, FALSE, integer(0), uid(0), data([0]), text("0"), wide([0]), real([0] * 4),
                  real([0] * 8), date([0] * 8), array([]), dictionary([])]
        for at, one in enumerate(leaves):
            for other_at, other in enumerate(leaves):
                found = parting(read(built([one, array([0])])), read(built([other, array([0])])))
                self.assertEqual(found, None if at == other_at else (0,))

    def test_values_that_cannot_be_written_out(self):
        self.assertIsNone(parting(read(doubling(MANY)), read(doubling(MANY))))
        self.assertEqual(parting(read(doubling(MANY)), read(doubling(MANY, TRUE))), (0,) * (MANY - 1))
        self.assertEqual(parting(read(doubling(MANY)), read(doubling(MANY - 1))), (0,) * (MANY - 2))
        objects = [NONE, TRUE, array([0, 0], 2), array([0, 1], 2)]
        objects += [array([2 if at == 4 else at - 2, at - 1], 2) for at in range(4, 5_000)]
        self.assertIsNone(parting(read(built(objects, reference_width=2)), read(built(objects, reference_width=2))))
        self.assertEqual(parting(read(chain(DEEP)), read(chain(DEEP - 1))), (0,) * (DEEP - 2))
        bent = [array([]), dictionary([])] + [array([at + 1 if at else 1], 2) for at in range(DEEP - 5)]
        self.assertEqual(parting(read(chain(DEEP - 4)), read(built(bent, reference_width=2))), (0,) * (DEEP - 5))


if __name__ == "__main__":
    unittest.main()
