import unittest

from making import NONE, array, built, chain, data, dictionary, doubling, integer, text, uid, wide
from nestfile.edits import inserted, joined, patched, removed, replaced, swapped
from nestfile.errors import BadCount, Large, NestError, NoFit, NoObject, NoPart, NoValue, Torn
from nestfile.files import entries, find, octets, read
from nestfile.paths import inner, part
from nestfile.values import Data, Date, Real, Uid, Wide
from nestfile.webs import depth, different, parts, times
from nestfile.writing import shrink, write

# [[7, 7], {"a": [7, 7], "b": "a"}] with a gap, unused and doubled objects, wide numbers and keys in descending order.
SHARED = built([array([5, 1], 2), dictionary([(3, 4), (2, 6)], 2), text("a"), text("b"), text("a"), array([7, 8], 2),
                array([8, 7], 2), integer(7, 2), integer(7), NONE], 0, reference_width=2, gaps={3: [1, 2, 3]})
VALUE = [[7, 7], {"a": [7, 7], "b": "a"}]
TRAPS = [{1}, 2.5, (1,), b"a", 2 ** 64, -(2 ** 63) - 1, "%", "\n", {1: 2}, {"%": 1}, [1, (2,)], {"a": {"b": 1.5}}]


def deep(many):
    value = 0
    for _ in range(many):
        value = [value]
    return value


class TestEdits(unittest.TestCase):
    def raises(self, error, fields, function, *arguments):
        with self.assertRaises(error) as caught:
            function(*arguments)
        self.assertIsInstance(caught.exception, NestError)
        self.assertEqual(vars(caught.exception), fields)

    def setUp(self):
        self.nest = read(SHARED)

    def tearDown(self):
        self.assertEqual(octets(self.nest), SHARED)
        self.assertEqual(part(self.nest, ()), VALUE)

    def no_part(self, length, function, *arguments):
        self.raises(NoPart, {"length": length}, function, *arguments)

    def wrong_values(self, edit):
        """Each kind of wrong value in each edit that takes one."""
        for wrong in TRAPS:
            with self.assertRaises(NoValue):
                edit(wrong)
        self.raises(NoValue, {"path": (1, "b", 0)}, edit, [0, {"b": [(), ()], "c": ()}])
        self.raises(Large, {"what": "depth"}, edit, deep(101))
        self.raises(Large, {"what": "parts"}, edit, [0] * 20_000)
        self.raises(Large, {"what": "depth"}, edit, [deep(101)] + [0] * 20_000)
        self.raises(NoValue, {"path": (1,)}, edit, [deep(101), ()])


class TestReplaced(TestEdits):
    def test_only_the_place_of_the_path_is_changed(self):
        for path, value, whole in (
                ((0,), 8, [8, {"a": [7, 7], "b": "a"}]), ((0, 0), 8, [[8, 7], {"a": [7, 7], "b": "a"}]),
                ((0, 1), 8, [[7, 8], {"a": [7, 7], "b": "a"}]), ((1, "a"), 8, [[7, 7], {"a": 8, "b": "a"}]),
                ((1, "a", 0), "b", [[7, 7], {"a": ["b", 7], "b": "a"}]), ((1, "b"), None, [[7, 7], {"a": [7, 7], "b": None}]),
                ((1,), [7, 7], [[7, 7], [7, 7]]), ((), VALUE[1], VALUE[1]), ((), 0, 0), ((), [], []),
                ((1, "b"), "b", [[7, 7], {"a": [7, 7], "b": "b"}]), ((0,), VALUE, [VALUE, VALUE[1]])):
            with self.subTest(path=path, value=value):
                self.assertEqual(replaced(self.nest, path, value), write(whole))
                self.assertEqual(replaced(nest=self.nest, path=list(path), value=value), write(whole))

    def test_the_same_value_gives_the_shortest_file(self):
        for path in ((), (0,), (1, "a", 1), (1, "b")):
            self.assertEqual(replaced(self.nest, path, part(self.nest, path)), shrink(self.nest))

    def test_each_kind_of_value(self):
        for value in (None, True, False, 1, 0, -1, "", "x", Wide([233]), Data([]), Uid(1), Real([0] * 4), Date([0] * 8),
                      [], {}, {"b": 1, "a": {"x": [Uid(1)]}}):
            self.assertEqual(replaced(self.nest, (0, 0), value), write([[value, 7], VALUE[1]]))
        self.assertNotEqual(replaced(self.nest, (0, 0), True), replaced(self.nest, (0, 0), 1))

    def test_paths_that_cannot_be_taken(self):
        for path, length in (((2,), 0), ((-1,), 0), ((True,), 0), (("a",), 0), ((None,), 0), ((0, 2), 1), ((0, True), 1),
                             ((0, 0, 0), 2), ((1, "c"), 1), ((1, 0), 1), ((1, "b", 0), 2), ((1, "a", -1), 2),
                             ((1, "a", 0, "x", 0), 3), ((1, "%"), 1), ((5, 5, 5), 0)):
            self.no_part(length, replaced, self.nest, path, 0)
            self.no_part(length, replaced, self.nest, list(path), (1,))
            self.no_part(length, removed, self.nest, path)

    def test_wrong_values(self):
        self.wrong_values(lambda value: replaced(self.nest, (0,), value))
        self.wrong_values(lambda value: replaced(self.nest, (), value))

    def test_what_was_handed_in_is_not_kept(self):
        value = [[1], {"a": [2]}]
        path = [0]
        file = replaced(self.nest, path, value)
        file[8] = 0
        self.assertEqual((value, path), ([[1], {"a": [2]}], [0]))
        self.assertEqual(replaced(self.nest, path, value), write([value, VALUE[1]]))

    def test_any_depth_and_number_of_parts(self):
        many = 7_000
        nest = read(chain(many))
        end = (0,) * (many - 1)
        file = replaced(nest, end, deep(100))
        found = read(file)
        self.assertEqual((depth(found), parts(found)), (many - 1 + 100, many + 100))
        self.assertEqual(file, shrink(found))
        nest = read(doubling(4_000))
        self.assertEqual(different(read(replaced(nest, (), [None, None, 5]))), 3)
        for path in ((1,), (0,) * 3_999, (1, 0) * 1_500):
            found = read(replaced(nest, path, [None, None, 5]))
            lost = parts(inner(nest, path))
            self.assertEqual(parts(found), parts(nest) - lost + 4)
            self.assertEqual(times(found, 5), 1)
            # Each list that the path leads through is of its own now, and the old top one is lost.
            self.assertEqual(different(found), 4_000 + len(path) - 1 + 2)
        self.raises(Large, {"what": "objects"}, replaced, read(doubling(6_000)), (0,) * 5_999, 5)

    def test_too_many_objects(self):
        nest = read(write([[k] for k in range(4_999)] + [0]))
        self.assertEqual(different(nest), 9_999)
        self.assertEqual(different(read(replaced(nest, (4_999,), "x"))), 10_000)
        self.raises(Large, {"what": "objects"}, replaced, nest, (4_999,), ["x"])
        self.assertEqual(different(read(replaced(nest, (0,), ["x"]))), 10_000)
        self.raises(Large, {"what": "objects"}, replaced, nest, (0,), [["x"]])
        self.raises(NoValue, {"path": (1,)}, replaced, nest, (0,), [["x"], ()])
        self.no_part(0, replaced, nest, (5_000,), ["x", "y"])
        self.raises(Large, {"what": "objects"}, replaced, nest, (), list(range(10_000)))
        self.assertEqual(len(read(replaced(nest, (), list(range(9_999))))), 10_000)


class TestRemoved(TestEdits):
    def test_items_and_members(self):
        for path, whole in (((0,), [VALUE[1]]), ((1,), [VALUE[0]]), ((0, 0), [[7], VALUE[1]]), ((0, 1), [[7], VALUE[1]]),
                            ((1, "a"), [[7, 7], {"b": "a"}]), ((1, "b"), [[7, 7], {"a": [7, 7]}]),
                            ((1, "a", 1), [[7, 7], {"a": [7], "b": "a"}])):
            self.assertEqual(removed(self.nest, path), write(whole))
            self.assertEqual(removed(nest=self.nest, path=list(path)), write(whole))

    def test_later_items_move_up(self):
        nest = read(write([1, 2, 3, [4]]))
        for at, whole in enumerate(([2, 3, [4]], [1, 3, [4]], [1, 2, [4]], [1, 2, 3])):
            self.assertEqual(removed(nest, (at,)), write(whole))

    def test_the_only_one(self):
        self.assertEqual(removed(read(write([7])), (0,)), write([]))
        self.assertEqual(removed(read(write([[7], [7]])), (1, 0)), write([[7], []]))
        self.assertEqual(removed(read(write({"a": {"b": 1}})), ("a", "b")), write({"a": {}}))

    def test_the_whole_value_and_wrong_paths(self):
        self.no_part(0, removed, self.nest, ())
        self.no_part(0, removed, self.nest, [])
        self.no_part(0, removed, read(write(5)), (0,))
        self.no_part(1, removed, self.nest, (1, "x"))

    def test_keys_that_are_also_parts(self):
        nest = read(write({"a": "b", "b": "a", "c": {"a": "c"}}))
        self.assertEqual(removed(nest, ("a",)), write({"b": "a", "c": {"a": "c"}}))
        self.assertEqual(removed(nest, ("c", "a")), write({"a": "b", "b": "a", "c": {}}))

    def test_astronomically_many_parts(self):
        nest = read(doubling(5_000))
        found = read(removed(nest, (1,)))
        self.assertEqual(parts(found), (parts(nest) + 1) // 2)
        self.assertEqual(inner(found, (0,)), inner(nest, (0,)))
        found = read(removed(nest, (0,) * 4_999))
        self.assertEqual(parts(found), parts(nest) - 1)


class TestInserted(TestEdits):
    def test_into_lists(self):
        for path, whole in (((0,), [9] + VALUE), ((1,), [VALUE[0], 9, VALUE[1]]), ((2,), VALUE + [9]),
                            ((0, 0), [[9, 7, 7], VALUE[1]]), ((0, 2), [[7, 7, 9], VALUE[1]]),
                            ((1, "a", 1), [[7, 7], {"a": [7, 9, 7], "b": "a"}])):
            self.assertEqual(inserted(self.nest, path, 9), write(whole))
            self.assertEqual(inserted(nest=self.nest, path=list(path), value=9), write(whole))
        self.assertEqual(inserted(read(write([])), (0,), []), write([[]]))

    def test_members_in_their_ascending_place(self):
        nest = read(write({"b": 1, "d": 2}))
        for key in ("", "a", "bb", "c", "e", "~", " ", "B"):
            self.assertEqual(inserted(nest, (key,), [key]), write({"b": 1, "d": 2, key: [key]}))
        self.assertEqual(inserted(read(write({})), ("x",), "x"), write({"x": "x"}))
        self.assertEqual(inserted(self.nest, (1, "aa"), "b"), write([[7, 7], {"a": [7, 7], "aa": "b", "b": "a"}]))

    def test_steps_that_cannot_be_inserted(self):
        for path, length in (((3,), 0), ((-1,), 0), ((True,), 0), ((False,), 0), (("a",), 0), ((None,), 0), ((1.0,), 0),
                             (((0,),), 0), ((2 ** 70,), 0), ((0, 3), 1), ((0, "a"), 1), ((1, "a"), 1), ((1, "b"), 1),
                             ((1, 0), 1), ((1, True), 1), ((1, "%"), 1), ((1, "a\n"), 1), ((1, "\u00e9"), 1), ((1, None), 1),
                             ((0, 0, 0), 2), ((1, "b", 0), 2), ((1, "b", "x"), 2), ((1, "a", -1), 2)):
            self.no_part(length, inserted, self.nest, path, 9)
            self.no_part(length, inserted, self.nest, list(path), (1,))

    def test_steps_that_cannot_be_taken(self):
        for path, length in (((), 0), ((2, 0), 0), ((-1, 0), 0), ((0, 2, 0), 1), ((1, "c", 0), 1), ((0, 0, 0, 0), 2),
                             ((True, 0), 0), ((5, 5, 5, 5), 0), ((1, "a", 2, 0), 2)):
            self.no_part(length, inserted, self.nest, path, 9)
            self.no_part(length, inserted, self.nest, path, (1,))
        self.no_part(0, inserted, self.nest, [], (1,))

    def test_wrong_values(self):
        self.wrong_values(lambda value: inserted(self.nest, (0,), value))
        self.wrong_values(lambda value: inserted(self.nest, (1, "c"), value))

    def test_too_many_objects(self):
        nest = read(write(list(range(9_998))))
        self.assertEqual(len(read(inserted(nest, (0,), "x"))), 10_000)
        self.raises(Large, {"what": "objects"}, inserted, nest, (0,), ["x"])
        nest = read(write({"a": list(range(9_990))}))
        self.raises(Large, {"what": "objects"}, inserted, nest, ("b",), [-1, -2, -3, -4, -5, -6, -7])
        self.assertEqual(len(read(inserted(nest, ("b",), "b"))), 9_994)

    def test_astronomically_many_parts(self):
        nest = read(doubling(4_000))
        path = (1, 0) * 1_000
        found = read(inserted(nest, path + (2,), "x"))
        self.assertEqual(parts(found), parts(nest) + 1)
        self.assertEqual(find(found, path + (2,)), find(read(shrink(found)), path + (2,)))
        self.assertEqual(part(found, path + (2,)), "x")
        self.assertNotIn(path[:-1] + (1, 2), found)


class TestSwapped(TestEdits):
    def test_every_place(self):
        for old, new, whole in (
                (7, 8, [[8, 8], {"a": [8, 8], "b": "a"}]), ([7, 7], 8, [8, {"a": 8, "b": "a"}]),
                (7, [7], [[[7], [7]], {"a": [[7], [7]], "b": "a"}]), (VALUE[1], VALUE, [[7, 7], VALUE]),
                ([7, 7], [[7, 7]], [[[7, 7]], {"a": [[7, 7]], "b": "a"}]), (VALUE, 0, 0), (VALUE, [VALUE], [VALUE]),
                (7, 7, VALUE), (7, None, [[None, None], {"a": [None, None], "b": "a"}])):
            self.assertEqual(swapped(self.nest, old, new), write(whole))
            self.assertEqual(swapped(nest=self.nest, old=old, new=new), write(whole))

    def test_values_that_do_not_occur(self):
        for old in (8, True, None, [7], [], {}, "b", "x", {"a": [7, 7]}, [7, 7, 7], Data([7]), Uid(7), [VALUE], deep(100)):
            self.assertEqual(swapped(self.nest, old, [1, 2]), shrink(self.nest))

    def test_keys_stay(self):
        self.assertEqual(swapped(self.nest, "a", "b"), write([[7, 7], {"a": [7, 7], "b": "b"}]))
        self.assertEqual(swapped(self.nest, "a", [0]), write([[7, 7], {"a": [7, 7], "b": [0]}]))
        nest = read(write({"a": {"a": "a"}, "b": ["a", "b"]}))
        self.assertEqual(swapped(nest, "a", "b"), write({"a": {"a": "b"}, "b": ["b", "b"]}))

    def test_what_becomes_alike_stays(self):
        # Only what was alike before is swapped, neither what is put in nor what holds it.
        nest = read(write([[1], [[1]], 1]))
        self.assertEqual(swapped(nest, [1], 1), write([1, [1], 1]))
        self.assertEqual(swapped(nest, 1, [1]), write([[[1]], [[[1]]], [1]]))
        self.assertEqual(swapped(nest, [[1]], [1]), write([[1], [1], 1]))
        self.assertEqual(swapped(nest, [1], [[1]]), write([[[1]], [[[1]]], 1]))
        self.assertEqual(swapped(read(write([[[]], []])), [], [[]]), write([[[[]]], [[]]]))
        self.assertEqual(swapped(read(write([[[]]])), [[]], []), write([[]]))

    def test_kinds_are_told_apart(self):
        nest = read(write([1, True, "1", Wide([233]), Uid(1), Data([1]), 0, False, None]))
        self.assertEqual(swapped(nest, True, 5), write([1, 5, "1", Wide([233]), Uid(1), Data([1]), 0, False, None]))
        self.assertEqual(swapped(nest, 0, 5), write([1, True, "1", Wide([233]), Uid(1), Data([1]), 5, False, None]))
        self.assertEqual(swapped(nest, Uid(1), 1), write([1, True, "1", Wide([233]), 1, Data([1]), 0, False, None]))
        self.assertEqual(swapped(nest, 1, True), write([True, True, "1", Wide([233]), Uid(1), Data([1]), 0, False, None]))

    def test_wrong_values_in_the_order_of_the_parameters(self):
        self.wrong_values(lambda value: swapped(self.nest, value, 0))
        self.wrong_values(lambda value: swapped(self.nest, 7, value))
        self.wrong_values(lambda value: swapped(self.nest, "not there", value))
        self.raises(NoValue, {"path": (0,)}, swapped, self.nest, [()], ())
        self.raises(Large, {"what": "parts"}, swapped, self.nest, [0] * 20_000, ())

    def test_astronomically_many_parts(self):
        nest = read(doubling(3_000))
        found = read(swapped(nest, None, [None, None]))
        self.assertEqual(found, read(doubling(3_001)))
        self.assertEqual(swapped(found, [None, None], None), shrink(nest))
        self.assertEqual(parts(read(swapped(nest, [[None] * 2] * 2, 5))), 2 ** 2_998 - 1)

    def test_too_many_objects(self):
        nest = read(write(list(range(9_999))))
        self.raises(Large, {"what": "objects"}, swapped, nest, 5, ["x"])
        self.assertEqual(len(read(swapped(nest, 5, "x"))), 10_000)
        self.assertEqual(len(read(swapped(nest, "x", "y"))), 10_000)
        self.assertEqual(swapped(nest, list(range(9_999)), 0), write(0))


class TestJoined(TestEdits):
    def test_none_one_and_several(self):
        self.assertEqual(joined([]), write([]))
        self.assertEqual(joined(()), write([]))
        self.assertEqual(joined([self.nest]), write([VALUE]))
        other = read(write({"b": 7, "c": [7, 7]}))
        self.assertEqual(joined(nests=(self.nest, other)), write([VALUE, {"b": 7, "c": [7, 7]}]))
        self.assertEqual(joined([other, self.nest, other]), write([{"b": 7, "c": [7, 7]}, VALUE, {"b": 7, "c": [7, 7]}]))
        self.assertEqual(joined([self.nest, inner(self.nest, (1,)), inner(self.nest, (0, 0))]), write([VALUE, VALUE[1], 7]))

    def test_how_many(self):
        nests = [read(write(k)) for k in range(101)]
        self.assertEqual(joined(nests[:100]), write(list(range(100))))
        self.assertEqual(joined([self.nest] * 100), write([VALUE] * 100))
        self.raises(BadCount, {"what": "nests", "count": 101}, joined, nests)
        self.raises(BadCount, {"what": "nests", "count": 250}, joined, (self.nest,) * 250)

    def test_lists_that_were_handed_in(self):
        nests = [self.nest, self.nest]
        file = joined(nests)
        nests.append(self.nest)
        self.assertEqual(joined(nests[:2]), file)
        self.assertEqual(len(nests), 3)

    def test_again_and_again(self):
        nest = read(write(0))
        for many in range(1, 200):
            nest = read(joined([nest, nest]))
            self.assertEqual((parts(nest), depth(nest), different(nest)), (2 ** (many + 1) - 1, many, many + 1))

    def test_too_many_objects(self):
        one = read(write(list(range(6_000))))
        two = read(write(list(range(5_000, 8_997))))
        self.assertEqual(len(read(joined([one, two]))), 9_000)
        self.raises(Large, {"what": "objects"}, joined, [one, read(write(list(range(6_000, 10_000))))])
        whole = read(write(list(range(9_999))))
        self.raises(Large, {"what": "objects"}, joined, [whole])
        self.assertEqual(len(read(joined([read(write(list(range(9_998))))] * 100))), 10_000)
        # What no reference leads to does not count.
        self.assertEqual(len(read(joined([inner(whole, (5,)), inner(whole, (6,))]))), 3)
        mixed = read(write([list(range(9_900)), [1, "x"]]))
        others = read(write([[str(k) for k in range(200)]]))
        self.assertEqual(len(read(joined([inner(mixed, (1,)), others]))), 1 + 3 + 202)
        self.assertEqual(different(inner(mixed, (1,))), 3)


class TestPatched(TestEdits):
    LEAVES = {
        1: [None, True, False, "", Data([])], 2: [0, 255, "a", "~", Data([0]), Uid(0), Uid(255)],
        3: [256, 65_535, "ab", Data([1, 2]), Uid(256), Wide([233])],
        5: [65_536, 2 ** 32 - 1, "abcd", Data([1] * 4), Real([1] * 4), Uid(2 ** 24), Wide([233, 97])],
        9: [2 ** 32, -1, -(2 ** 63), 2 ** 63 - 1, "abcdefgh", Data([1] * 8), Real([1] * 8), Date([1] * 8), Uid(2 ** 63),
            Wide([233, 97, 9_000, 65_535])],
        17: [2 ** 63, 2 ** 64 - 1],
    }

    def test_every_kind_over_every_other_kind(self):
        for length, leaves in self.LEAVES.items():
            for old in leaves:
                nest = read(write([old, [old]]))
                for new in leaves:
                    file = patched(nest, 0, new)
                    self.assertEqual(part(read(file), ()), [new, [new]])
                    place = entries(nest)[0].place
                    self.assertEqual(file[:place] + file[place + length:],
                                     octets(nest)[:place] + octets(nest)[place + length:])
                    self.assertEqual(file[place:place + length], write(new)[8:8 + length])
                for other, wrong in self.LEAVES.items():
                    if other != length:
                        self.raises(NoFit, {"length": other}, patched, nest, 0, wrong[0])

    def test_sizes_of_more_than_fourteen(self):
        nest = read(write([Data([1] * 15)]))
        self.assertEqual(part(read(patched(nest, 0, "a" * 15)), ()), ["a" * 15])
        self.raises(NoFit, {"length": 15}, patched, nest, 0, "a" * 14)
        self.raises(NoFit, {"length": 19}, patched, nest, 0, Data([0] * 16))
        self.raises(NoFit, {"length": 304}, patched, nest, 0, Data([0] * 300))
        self.raises(NoFit, {"length": 604}, patched, nest, 0, Wide([256] * 300))

    def test_lists_and_dictionaries_are_written_over(self):
        nest = read(built([integer(7), array([0, 0, 0, 0]), dictionary([]), array([1, 2, 1])]))
        self.assertEqual(part(read(patched(nest, 1, "abcd")), ()), ["abcd", {}, "abcd"])
        self.assertEqual(part(read(patched(nest, 2, None)), ()), [[7] * 4, None, [7] * 4])
        self.assertEqual(part(read(patched(nest, 3, "abc")), ()), "abc")
        self.assertEqual(part(read(patched(nest, 3, Data([1, 2, 3]))), ()), Data([1, 2, 3]))

    def test_objects_that_are_longer_than_needed(self):
        nest = read(SHARED)
        self.raises(NoFit, {"length": 2}, patched, nest, 7, 7)
        self.raises(NoFit, {"length": 3}, patched, nest, 7, 300)
        self.assertEqual(part(read(patched(nest, 7, 70_000)), ()), [[70_000, 7], {"a": [7, 70_000], "b": "a"}])
        file = built([wide([97]), uid(5, 4), integer(1, 3), data([1], 1), array([0, 1, 2, 3])])
        self.assertEqual(part(read(patched(read(file), 0, "xy")), (0,)), "xy")
        self.assertEqual(part(read(patched(read(file), 1, Real([9] * 4))), (1,)), Real([9] * 4))
        self.assertEqual(part(read(patched(read(file), 2, -7)), (2,)), -7)
        self.assertEqual(part(read(patched(read(file), 3, "abcd")), (3,)), "abcd")

    def test_used_and_unused_objects(self):
        nest = read(SHARED)
        file = patched(nest, 9, True)
        self.assertEqual(read(file), nest)
        self.assertEqual(sum(one != other for one, other in zip(file, SHARED)), 1)
        self.assertEqual(part(read(patched(nest, 4, 9)), ()), [[7, 7], {"a": [7, 7], "b": 9}])

    def test_keys(self):
        nest = read(write({"a": 1, "b": "a"}))
        self.assertEqual(part(read(patched(nest, 0, "c")), ()), {"c": 1, "b": "c"})
        self.assertEqual(part(read(patched(nest, 1, "0")), ()), {"a": 1, "0": "a"})
        place = nest.objects.ends[3] - 4
        self.raises(Torn, {"word": "twice", "place": place + 1}, patched, nest, 0, "b")
        self.raises(Torn, {"word": "twice", "place": place + 1}, patched, nest, 1, "a")
        for wrong in (5, Data([1]), Uid(1)):
            self.raises(Torn, {"word": "key", "place": place}, patched, nest, 0, wrong)
            self.raises(Torn, {"word": "key", "place": place + 1}, patched, nest, 1, wrong)
        self.assertEqual(part(read(patched(nest, 2, "a")), ()), {"a": "a", "b": "a"})
        nest = read(write({"ab": 1}))
        self.raises(Torn, {"word": "key", "place": nest.objects.ends[2] - 2}, patched, nest, 0, Wide([233]))
        # Dictionaries that are not used are checked, too.
        nest = read(built([text("a"), integer(1), dictionary([(0, 1)]), NONE]))
        self.raises(Torn, {"word": "key", "place": nest.objects.places[2] + 1}, patched, nest, 0, 5)

    def test_numbers_out_of_range(self):
        for wrong in (-1, 10, 11, 2 ** 70, True, False, None, "0", 1.0, (0,)):
            self.raises(NoObject, {"number": wrong}, patched, self.nest, wrong, (1,))
        self.raises(NoObject, {"number": 2}, patched, read(write([7, 7])), 2, 9)

    def test_the_order_of_the_errors(self):
        nest = read(write([7, 7]))
        self.raises(NoValue, {"path": ()}, patched, nest, 0, (1,))
        self.raises(NoValue, {"path": (1, 0)}, patched, nest, 0, [0, [()]])
        self.raises(Large, {"what": "depth"}, patched, nest, 0, deep(101))
        self.raises(Large, {"what": "parts"}, patched, nest, 0, [0] * 20_000)
        for value in ([], {}, [9], {"a": 1}, deep(100), [0] * 19_999):
            self.raises(NoValue, {"path": ()}, patched, nest, 0, value)
        self.raises(NoFit, {"length": 3}, patched, nest, 0, 300)
        self.raises(NoFit, {"length": 1}, patched, nest, 1, None)
        self.raises(NoFit, {"length": 3}, patched, read(write({"a": 1})), 0, 300)

    def test_names_and_results(self):
        nest = read(write([7, 7]))
        file = patched(nest=nest, number=0, value=9)
        self.assertEqual(part(read(file), ()), [9, 9])
        file[8] = 0
        self.assertEqual(octets(nest), write([7, 7]))
        found = inner(self.nest, (1,))
        self.assertEqual(patched(found, 9, True)[-32:], octets(found)[-32:])
        self.assertEqual(part(read(patched(found, 8, 9)), ()), {"a": [9, 7], "b": "a"})

    def test_large_files(self):
        nest = read(doubling(7_000))
        found = read(patched(nest, 0, True))
        self.assertEqual(parts(found), parts(nest))
        self.assertEqual(times(found, True), 2 ** 6_999)


if __name__ == "__main__":
    unittest.main()
