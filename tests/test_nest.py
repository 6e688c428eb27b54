import unittest

from making import (FALSE, NONE, TRUE, array, built, chain, data, date, dictionary, doubling, framed, integer, real,
                    text, uid, wide)
from nestfile.errors import NoPart
from nestfile.files import Entry, entries, find, gaps, octets, read, top, unused

# 0 to 3 are leaves, 4 a list that stands twice in the value, 5 the top one.
SHARED = [text("b"), integer(7), TRUE, text("a"), array([1, 2, 1]), dictionary([(0, 4), (3, 6)]), array([4, 0, 4])]


class Lookalike:
    """An object of another class with the fields of an entry."""

    def __init__(self):
        self.kind, self.place, self.length, self.references = "none", 8, 1, ()


class TestNest(unittest.TestCase):
    def test_len_and_octets_and_top(self):
        file = built(SHARED, 5)
        nest = read(file)
        self.assertEqual(len(nest), 7)
        self.assertEqual(octets(nest), file)
        self.assertIsInstance(octets(nest), list)
        self.assertEqual(octets(nest=nest), file)
        for at in range(7):
            self.assertEqual(top(read(built(SHARED, at))), at)
        self.assertEqual(top(nest=nest), 5)

    def test_each_returned_list_is_new(self):
        nest = read(built(SHARED + [NONE], 5, gaps={0: [1, 2]}))
        for asked in (octets, entries, unused, gaps):
            first = asked(nest)
            self.assertTrue(first)
            expected = list(first)
            first.clear()
            self.assertEqual(asked(nest), expected)
        entries(nest)[0].kind = "other"
        self.assertEqual(entries(nest)[0].kind, "string")

    def test_entries(self):
        objects = [array([1, 1]), TRUE, NONE, FALSE, integer(300), real([0] * 4), date([0] * 8), data([1, 2]),
                   text("x"), wide([233]), uid(9), dictionary([(8, 1)])]
        kinds = ["list", "truth", "none", "truth", "integer", "real", "date", "data", "string", "string", "uid",
                 "dictionary"]
        found = entries(read(built(objects)))
        place = 8
        for one, kind, row in zip(objects, kinds, found):
            references = {"list": (1, 1), "dictionary": (8, 1)}.get(kind, ())
            self.assertTrue(row == Entry(kind, place, len(one), references))
            self.assertIsInstance(row.references, tuple)
            place += len(one)
        self.assertEqual(len(found), len(objects))

    def test_entries_list_references_as_the_file_does(self):
        file = built([text("z"), text("a"), NONE, TRUE, dictionary([(0, 2), (1, 3)])])
        self.assertEqual(entries(read(file))[4].references, (0, 1, 2, 3))

    def test_entry(self):
        made = Entry(kind="list", place=10, length=3, references=[0, 1])
        self.assertEqual(vars(made), {"kind": "list", "place": 10, "length": 3, "references": (0, 1)})
        self.assertTrue(made == Entry("list", 10, 3, (0, 1)))
        for other in (Entry("none", 10, 3, (0, 1)), Entry("list", 11, 3, (0, 1)), Entry("list", 10, 4, (0, 1)),
                      Entry("list", 10, 3, (1, 0)), Entry("list", 10, 3, ())):
            self.assertFalse(made == other)
            self.assertTrue(made != other)
        self.assertFalse(Entry("none", 8, 1, ()) == Lookalike())
        self.assertFalse(Entry("none", 8, 1, ()) == ("none", 8, 1, ()))
        self.assertFalse(Entry("none", 8, 1, ()) == None)

    def test_unused(self):
        self.assertEqual(unused(read(built(SHARED, 5))), [])
        self.assertEqual(unused(read(built(SHARED, 6))), [3, 5])
        self.assertEqual(unused(read(built(SHARED, 4))), [0, 3, 5, 6])
        self.assertEqual(unused(read(built(SHARED, 0))), [1, 2, 3, 4, 5, 6])
        # Keys are referred to; what only unused objects refer to is unused.
        self.assertEqual(unused(read(built([text("a"), NONE, dictionary([(0, 1)])]))), [])
        self.assertEqual(unused(read(built([NONE, array([0]), array([1]), TRUE]))), [0, 1, 2])
        self.assertEqual(unused(nest=read(built([NONE]))), [])

    def test_gaps(self):
        self.assertEqual(gaps(read(built(SHARED))), [])
        file = built([NONE, integer(1), TRUE], order=[2, 0, 1], gaps={2: [1], 1: [1, 2, 3]}, tail=[9, 9])
        self.assertEqual(gaps(read(file)), [(8, 9), (11, 14), (16, 18)])
        for pair in gaps(read(file)):
            self.assertIsInstance(pair, tuple)
        # Unused objects are no gaps, and objects in a row make none.
        self.assertEqual(gaps(nest=read(built([NONE, NONE, NONE], 0))), [])
        self.assertEqual(gaps(read(framed([5] * 100 + NONE + [6] * 50, [108]))), [(8, 108), (109, 159)])


class TestEquality(unittest.TestCase):
    def same(self, one, other):
        self.assertIs(read(one) == read(other), True)
        self.assertIs(read(other) == read(one), True)
        self.assertIs(read(one) != read(other), False)

    def differ(self, one, other):
        self.assertIs(read(one) == read(other), False)
        self.assertIs(read(other) == read(one), False)
        self.assertIs(read(one) != read(other), True)

    def test_the_bytes_do_not_matter(self):
        plain = built([integer(7), array([0, 0])])
        self.same(plain, plain)
        self.same(plain, built([integer(7), integer(7), array([0, 1])]))
        self.same(plain, built([integer(7, 4), array([2, 0]), integer(7, 1)], 1))
        self.same(plain, built([array([1, 1], 5), integer(7)], 0, order=[1, 0], gaps={0: [1]}, offset_width=8,
                               reference_width=5))
        self.same(plain, built([NONE, integer(7), array([1, 1]), data([1])], 2))
        self.same(built([array([])]), built([array([], 1, 4)]))

    def test_strings_by_their_characters(self):
        self.same(built([text("ab")]), built([wide([97, 98])]))
        self.same(built([text("")]), built([wide([], 3)]))
        self.same(built([text("a\x00")]), built([wide([97, 0])]))
        self.same(built([text("%")]), built([wide([37])]))
        self.differ(built([text("ab")]), built([text("ba")]))
        self.differ(built([text("ab")]), built([data([97, 98])]))
        self.differ(built([wide([233])]), built([wide([234])]))
        for at in range(32, 127):
            self.same(built([text(chr(at))]), built([wide([at])]))
            self.differ(built([text(chr(at))]), built([wide([at + 1])]))

    def test_kinds_are_not_mixed(self):
        eight = [0] * 8
        objects = [NONE, TRUE, FALSE, integer(0), integer(1), integer(-1), uid(0), uid(1), text(""), text("1"),
                   data([]), data([0]), data(eight), real(eight), date(eight), real([0] * 4), array([]), dictionary([]),
                   wide([0])]
        for at, one in enumerate(objects):
            for other_at, other in enumerate(objects):
                compared = self.same if at == other_at else self.differ
                compared(built([one]), built([other]))
                compared(built([one, array([0])]), built([other, array([0])]))

    def test_dictionaries_in_any_order(self):
        keys = [text("b"), text("a"), integer(1), integer(2)]
        one = built(keys + [dictionary([(0, 2), (1, 3)])])
        self.same(one, built(keys + [dictionary([(1, 3), (0, 2)])]))
        self.differ(one, built(keys + [dictionary([(0, 3), (1, 2)])]))
        self.differ(one, built(keys + [dictionary([(0, 2)])]))
        self.same(one, built([wide([97]), integer(2), text("b"), integer(1), dictionary([(0, 1), (2, 3)])]))
        # A key that is a part as well, and one that is not.
        self.same(built([text("a"), dictionary([(0, 0)])]), built([text("a"), text("a"), dictionary([(1, 0)])]))
        self.differ(built([text("a"), text("b"), dictionary([(0, 0)])]),
                    built([text("a"), text("b"), dictionary([(0, 1)])]))

    def test_lists_item_by_item(self):
        leaves = [integer(1), integer(2)]
        self.differ(built(leaves + [array([0, 1])]), built(leaves + [array([1, 0])]))
        self.differ(built(leaves + [array([0])]), built(leaves + [array([0, 0])]))
        self.differ(built(leaves + [array([0]), array([2])]), built(leaves + [array([0])]))
        # The same different parts at the same depths, in another arrangement.
        self.differ(built(leaves + [array([0, 1]), array([1, 0]), array([2, 3])]),
                    built(leaves + [array([0, 1]), array([1, 0]), array([3, 2])]))
        self.differ(built(leaves + [array([0, 1]), array([2, 2])]), built(leaves + [array([0, 0]), array([2, 1])]))

    def test_other_classes(self):
        nest = read(built([NONE]))
        for other in (None, built([NONE]), 0, "none", object(), entries(nest)[0]):
            self.assertIs(nest == other, False)
            self.assertIs(other == nest, False)
            self.assertIs(nest != other, True)

    def test_values_of_astronomically_many_parts(self):
        many = 6_900
        one = doubling(many)
        self.assertLessEqual(len(one), 50_000)
        objects = [array([at + 1, at + 1], 2) for at in range(many - 1)] + [NONE]
        self.same(one, built(objects, 0, reference_width=2))
        self.differ(one, doubling(many, FALSE))
        self.differ(one, doubling(many - 1))
        changed = list(objects)
        changed[3_000] = array([3_001], 2)
        self.differ(one, built(changed, 0, reference_width=2))
        # Each list but the last one stands there twice.
        twins = [NONE, NONE]
        for at in range(0, 4_400, 2):
            twins += [array([at, at + 1], 2), array([at + 1, at], 2)]
        self.same(doubling(2_201), built(twins, reference_width=2))

    def test_depths(self):
        self.same(chain(9_990), built([array([at + 1], 2) for at in range(9_989)] + [array([])], 0,
                                      reference_width=2))
        self.differ(chain(9_990), chain(9_989))
        self.differ(chain(9_990), built([NONE] + [array([at], 2) for at in range(9_989)], reference_width=2))


class TestPaths(unittest.TestCase):
    def missing(self, nest, path, length):
        with self.assertRaises(NoPart) as caught:
            find(nest, path)
        self.assertEqual(caught.exception.length, length)
        self.assertIs(path in nest, False)

    def there(self, nest, path, number):
        self.assertEqual(find(nest, path), number)
        self.assertIs(path in nest, True)

    def test_the_example(self):
        self.missing(read(built([integer(7), array([0])])), (1,), 0)

    def test_paths_that_can_be_taken(self):
        nest = read(built(SHARED, 5))
        for path, number in [((), 5), (("b",), 4), (("b", 0), 1), (("b", 1), 2), (("b", 2), 1), (("a",), 6),
                             (("a", 0), 4), (("a", 1), 0), (("a", 2), 4), (("a", 2, 2), 1)]:
            self.there(nest, path, number)
            self.there(nest, list(path), number)
        self.assertEqual(find(nest=nest, path=["a", 2]), 4)
        self.assertIn([], nest)

    def test_any_object_may_be_the_top_one(self):
        self.there(read(built(SHARED, 6)), (0, 2), 1)
        self.there(read(built(SHARED, 4)), (1,), 2)
        self.there(read(built(SHARED, 1)), (), 1)
        self.missing(read(built(SHARED, 1)), (0,), 0)

    def test_paths_that_cannot_be_taken(self):
        nest = read(built(SHARED, 5))
        for path, length in [(("c",), 0), (("",), 0), ((0,), 0), (("b", 3), 1), (("b", -1), 1), (("b", "0"), 1),
                             (("b", "b"), 1), (("a", 0, 3), 2), (("a", 1, 0), 2), (("a", 1, "b"), 2),
                             (("b", 0, 0), 2), (("b", 0, 0, 0, "x"), 2), (("a", 2, 2, 7), 3), (("c", 0), 0),
                             (("b", 10 ** 3999), 1), (("b", -(10 ** 3999)), 1)]:
            self.missing(nest, path, length)
            self.missing(nest, list(path), length)

    def test_true_and_negative_numbers_are_no_steps(self):
        nest = read(built([NONE, TRUE, array([0, 1])]))
        self.there(nest, (0,), 0)
        self.there(nest, (1,), 1)
        for step in (True, False, -1, -2, 2):
            self.missing(nest, (step,), 0)
        nest = read(built([text("1"), text("True"), NONE, array([2]), dictionary([(0, 2), (1, 3)])]))
        for step in (True, 1, False, 0, -1):
            self.missing(nest, (step,), 0)
            self.missing(nest, ("1", step), 1)
        self.missing(nest, ("True", True), 1)
        self.missing(nest, ("True", False), 1)

    def test_steps_behind_parts_without_items(self):
        for one in (NONE, TRUE, integer(5), text("abc"), wide([233, 234]), data([1, 2, 3]), uid(1), real([0] * 8),
                    date([0] * 8), array([]), dictionary([])):
            nest = read(built([one]))
            self.there(nest, (), 0)
            for step in (0, 1, "", "a", -1):
                self.missing(nest, (step,), 0)
                self.missing(nest, (step, step, step), 0)

    def test_keys_in_any_order_and_written_wide(self):
        nest = read(built([text("z"), wide([97]), wide([]), NONE, TRUE, FALSE, dictionary([(0, 3), (1, 4), (2, 5)])]))
        self.there(nest, ("z",), 3)
        self.there(nest, ("a",), 4)
        self.there(nest, ("",), 5)

    def test_the_number_is_that_of_the_object_in_the_file(self):
        # Alike objects are told apart.
        nest = read(built([integer(1), integer(1), array([1, 0, 1])]))
        self.assertEqual([find(nest, (at,)) for at in range(3)], [1, 0, 1])

    def test_long_paths(self):
        nest = read(chain(9_990))
        self.there(nest, (0,) * 9_989, 0)
        self.missing(nest, (0,) * 9_990, 9_989)
        self.missing(nest, (0,) * 5_000 + (1,) + (0,) * 10, 5_000)
        nest = read(doubling(6_900))
        self.there(nest, (0, 1) * 3_449 + (1,), 0)

    def test_a_path_is_not_changed(self):
        nest = read(built(SHARED, 5))
        path = ["b", 1, 0]
        self.missing(nest, path, 2)
        self.assertEqual(path, ["b", 1, 0])


if __name__ == "__main__":
    unittest.main()
