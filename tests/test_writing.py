"""Promises [13] and [14]: the shortest file of a value, and where the bytes of a longer one go."""

import copy
import unittest

import slow
from making import (FALSE, HEADER, NONE, TRUE, array, built, chain, data, date, dictionary, doubling, framed, integer,
                    least, number, real, sized, text, trailer, uid, wide)
from nestfile.errors import Large, NoValue
from nestfile.files import entries, gaps, octets, read, top, unused
from nestfile.paths import part
from nestfile.values import Data, Date, Real, Uid, Wide
from nestfile.writing import Account, account, shrink, write

EIGHT = [0, 1, 2, 3, 4, 5, 6, 255]


def nested(depth):
    value = []
    for at in range(depth):
        value = [value] if at % 2 else {"k": value}
    return value


def width_of_references(file):
    return file[-25]


def width_of_offsets(file):
    return file[-26]


class TestCase(unittest.TestCase):
    def raises(self, error, fields, function, *arguments):
        with self.assertRaises(error) as caught:
            function(*arguments)
        self.assertEqual(vars(caught.exception), fields)


class TestOneObject(TestCase):
    """Parts without items, each as its own file; the bytes are put down by hand."""

    def writes(self, value, one):
        table = 8 + len(one)
        expected = HEADER + one + [8] + trailer(1, 1, 1, 0, table)
        self.assertEqual(write(value), expected)
        self.assertEqual(shrink(read(expected)), expected)

    def test_the_example(self):
        self.assertEqual(bytes(write(5)).hex(),
                         "62706c6973743030100508000000000000010100000000000000010000000000000000000000000000000a")

    def test_none_and_truths(self):
        self.writes(None, [0x00])
        self.writes(False, [0x08])
        self.writes(True, [0x09])

    def test_integers_at_each_width(self):
        for worth in (0, 1, 127, 128, 255):
            self.writes(worth, [0x10, worth])
        for worth in (256, 65_535):
            self.writes(worth, [0x11] + number(worth, 2))
        for worth in (65_536, 2 ** 31, 2 ** 32 - 1):
            self.writes(worth, [0x12] + number(worth, 4))
        for worth in (2 ** 32, 2 ** 63 - 1):
            self.writes(worth, [0x13] + number(worth, 8))
        self.writes(-1, [0x13] + [255] * 8)
        self.writes(-256, [0x13] + [255] * 7 + [0])
        self.writes(-(2 ** 63), [0x13, 128, 0, 0, 0, 0, 0, 0, 0])
        self.writes(2 ** 63, [0x14] + [0] * 8 + [128, 0, 0, 0, 0, 0, 0, 0])
        self.writes(2 ** 64 - 1, [0x14] + [0] * 8 + [255] * 8)

    def test_uids_at_each_width(self):
        self.writes(Uid(0), [0x80, 0])
        for width in range(1, 9):
            self.writes(Uid(256 ** width - 1), [0x80 + width - 1] + [255] * width)
            self.writes(Uid(256 ** (width - 1)), [0x80 + width - 1, 1] + [0] * (width - 1))

    def test_reals_and_dates_keep_their_bytes(self):
        self.writes(Real([128, 0, 0, 0]), [0x22, 128, 0, 0, 0])
        self.writes(Real(EIGHT), [0x23] + EIGHT)
        self.writes(Real([0] * 8), [0x23] + [0] * 8)
        self.writes(Date(EIGHT), [0x33] + EIGHT)

    def test_sizes_at_each_width(self):
        for size in (0, 1, 14):
            self.writes(Data([7] * size), [0x40 + size] + [7] * size)
            self.writes("x" * size, [0x50 + size] + [120] * size)
        for size in (15, 16, 255):
            self.writes(Data([7] * size), [0x4F, 0x10, size] + [7] * size)
            self.writes("x" * size, [0x5F, 0x10, size] + [120] * size)
        for size in (256, 257, 20_000):
            self.writes(Data([7] * size), [0x4F, 0x11] + number(size, 2) + [7] * size)
            self.writes("x" * size, [0x5F, 0x11] + number(size, 2) + [120] * size)

    def test_sizes_beyond_two_bytes(self):
        for size, head in ((65_535, [0x4F, 0x11, 255, 255]), (65_536, [0x4F, 0x12, 0, 1, 0, 0])):
            self.assertEqual(write(Data([7] * size))[8:-33], head + [7] * size)
        self.assertEqual(write(Wide([233] * 65_536))[8:16], [0x6F, 0x12, 0, 1, 0, 0, 0, 233])

    def test_strings_of_one_and_of_two_bytes(self):
        self.writes("a~ ", [0x53, 97, 126, 32])
        self.writes(Wide([37]), [0x51, 37])
        self.writes(Wide([0, 127, 97]), [0x53, 0, 127, 97])
        self.writes(Wide([127] * 15), [0x5F, 0x10, 15] + [127] * 15)
        self.writes(Wide([128]), [0x61, 0, 128])
        self.writes(Wide([97, 255]), [0x62, 0, 97, 0, 255])
        self.writes(Wide([8364] * 14), [0x6E] + [0x20, 0xAC] * 14)
        self.writes(Wide([65_535] * 15), [0x6F, 0x10, 15] + [255] * 30)

    def test_empty_lists_and_dictionaries(self):
        self.writes([], [0xA0])
        self.writes({}, [0xD0])


class TestWrite(TestCase):
    def writes(self, value, objects, **options):
        expected = built(objects, **options)
        self.assertEqual(write(value), expected)
        self.assertEqual(slow.shortest(value), expected)
        if len(expected) <= 50_000:
            self.assertEqual(shrink(read(expected)), expected)

    def test_lists_and_dictionaries(self):
        self.assertEqual(len(write([7, 7])), 47)
        self.writes([7, 7], [integer(7), array([0, 0])])
        self.writes({"a": 1}, [text("a"), integer(1), dictionary([(0, 1)])])
        self.writes([], [array([])])
        self.writes([[]], [array([]), array([0])])

    def test_alike_parts_and_keys_share_an_object(self):
        self.writes([True, 1, True, 1], [TRUE, integer(1), array([0, 1, 0, 1])])
        self.writes({"a": "a"}, [text("a"), dictionary([(0, 0)])])
        self.writes(["b", {"b": ["b"]}], [text("b"), dictionary([(0, 2)]), array([0]), array([0, 1])])
        self.writes([[], {}, [], {}], [array([]), dictionary([]), array([0, 1, 0, 1])])
        self.writes([Uid(1), 1, "1", Data([1]), Wide([1])],
                    [uid(1), integer(1), text("1"), data([1]), text("\x01"), array([0, 1, 2, 3, 4])])
        self.writes([{"a": 1, "b": 2}, {"b": 2, "a": 1}],
                    [dictionary([(1, 3), (2, 4)]), text("a"), text("b"), integer(1), integer(2), array([0, 0])],
                    order=[1, 2, 3, 4, 5, 0])
        self.writes([False, 0, None, ""], [FALSE, integer(0), NONE, text(""), array([0, 1, 2, 3])])
        self.writes([Real(EIGHT), Date(EIGHT), Data(EIGHT)],
                    [real(EIGHT), date(EIGHT), data(EIGHT), array([0, 1, 2])], order=[0, 1, 3, 2])

    def test_the_order_of_numbers(self):
        # Each item is followed by its own parts.
        self.writes([[[7], True], [7], None], [
            array([1, 3]), array([2]), integer(7), TRUE, NONE, array([0, 1, 4])])
        # Keys ascending stand before the values, these in the order of the keys.
        self.writes({"b": [7], "a": "b"}, [
            text("a"), text("b"), array([3]), integer(7), dictionary([(0, 1), (1, 2)])])
        self.writes({"b": {"d": 1, "c": 2}, "a": {"c": 3}}, [
            text("a"), text("b"), dictionary([(3, 4)]), text("c"), integer(3), dictionary([(3, 7), (6, 8)]), text("d"),
            integer(2), integer(1), dictionary([(0, 2), (1, 5)])])

    def test_the_order_of_keys(self):
        value = {"b": 1, "a": 1, "B": 1, "": 1, "a9": 1, "a10": 1}
        keys = ["", "B", "a", "a10", "a9", "b"]
        self.writes(value, [text(key) for key in keys] + [integer(1), dictionary([(at, 6) for at in range(6)])])
        turned = {key: value[key] for key in reversed(list(value))}
        self.assertEqual(write(turned), write(value))

    def test_which_object_stands_last(self):
        long_one = data([1] * 14)
        self.writes([Data([1] * 14), 0], [long_one, integer(0), array([0, 1])], order=[1, 2, 0])
        # Of several of the same length, the one with the greatest number.
        self.writes([Data([1] * 14), 0, Data([2] * 14), 1],
                    [long_one, integer(0), data([2] * 14), integer(1), array([0, 1, 2, 3])], order=[0, 1, 3, 4, 2])
        self.writes([0, 1, 2], [integer(0), integer(1), integer(2), array([0, 1, 2])])
        self.writes([Data([1, 2]), "xy"], [data([1, 2]), text("xy"), array([0, 1])])
        self.writes([Data([1, 2, 3]), "xyz", 0], [data([1, 2, 3]), text("xyz"), integer(0), array([0, 1, 2])])
        self.writes([Data([1, 2, 3]), "xyz"], [data([1, 2, 3]), text("xyz"), array([0, 1])], order=[0, 2, 1])
        self.writes([[1, 2, 3], "x"], [array([1, 2, 3]), integer(1), integer(2), integer(3), text("x"), array([0, 4])],
                    order=[1, 2, 3, 4, 5, 0])
        # The width of the references tells whether the list or the data of 274 bytes is longer.
        for many, width, order in ((255, 1, [*range(255), 256, 255]), (256, 2, None)):
            leaves = [integer(at) for at in range(many)]
            self.writes(list(range(many)) + [Data([1] * 270)],
                        leaves + [data([1] * 270), array(range(many + 1), width)], order=order, reference_width=width)

    def test_the_width_of_references(self):
        for many, width in ((2, 1), (255, 1), (256, 1), (257, 1), (258, 2), (259, 2), (9_999, 2), (10_000, 2)):
            value = list(range(many - 1))
            file = write(value)
            self.assertEqual(width_of_references(file), width, many)
            leaves = [integer(at) for at in value]
            self.assertEqual(file, built(leaves + [array(value, width)], reference_width=width), many)
            if len(file) <= 50_000:
                self.assertEqual(shrink(read(file)), file)
        self.assertEqual(width_of_references(write(0)), 1)

    def test_the_width_of_references_counts_keys(self):
        for many, width in ((255, 1), (257, 2)):
            value = {"k" + str(at): None for at in range(many)}
            self.assertEqual(width_of_references(write(value)), width)
        self.assertEqual(width_of_references(write({"k" + str(at): None for at in range(256)})), 2)
        self.assertEqual(width_of_references(write([{"k" + str(at): 0 for at in range(254)}, 0])), 1)
        self.assertEqual(width_of_references(write([{"k" + str(at): 0 for at in range(255)}, 0])), 2)

    def test_the_width_of_offsets(self):
        # [first, second]: the first one, the list of 3 bytes, and the second one at the place that matters.
        for place, width in ((254, 1), (255, 1), (256, 2), (257, 2), (65_534, 2), (65_535, 2), (65_536, 3)):
            for head in (3, 4):
                size = place - 8 - head - 3
                if len(data([1] * size)) == head + size:
                    file = write([Data([1] * size), Data([2] * size)])
                    self.assertEqual(width_of_offsets(file), width)
                    places = [8, place, place - 3]
                    body = data([1] * size) + array([0, 1]) + data([2] * size)
                    self.assertEqual(file, framed(body, places, 2, offset_width=width))
        self.assertEqual(width_of_offsets(write(Data([1] * 70_000))), 1)

    def test_too_many_objects(self):
        self.assertEqual(len(slow.keys({"k" + str(at): None for at in range(9_998)})), 9_998)
        for value in (list(range(9_999)), {"k" + str(at): None for at in range(9_998)},
                      {"k" + str(at): at for at in range(4_999)} | {"k": 0}, [[]] + list(range(9_998))):
            file = write(value)
            self.assertEqual(int.from_bytes(bytes(file[-24:-16]), "big"), 10_000)
        for value in (list(range(10_000)), {"k" + str(at): None for at in range(9_999)},
                      {"k" + str(at): at for at in range(5_000)}, [[]] + list(range(9_999)),
                      [[at] for at in range(5_000)]):
            self.raises(Large, {"what": "objects"}, write, value)
        self.assertEqual(len(write([0] * 19_999)), 8 + 2 + 5 + 19_999 - 1 + 2 + 32)

    def test_errors_of_check(self):
        self.raises(NoValue, {"path": ()}, write, 1.5)
        self.raises(NoValue, {"path": (1, "a")}, write, [1, {"a": (2,)}])
        self.raises(NoValue, {"path": ()}, write, {1: 1})
        self.raises(NoValue, {"path": (10_001,)}, write, list(range(10_001)) + [1.5])
        self.raises(Large, {"what": "parts"}, write, list(range(20_000)))
        self.raises(Large, {"what": "depth"}, write, [list(range(20_000)), nested(100)])

    def test_depths_and_parts_at_their_limits(self):
        self.assertEqual(write(nested(100)), slow.shortest(nested(100)))
        self.assertEqual(part(read(write(nested(100))), ()), nested(100))
        self.raises(Large, {"what": "depth"}, write, nested(101))
        self.assertEqual(part(read(write([0] * 19_999)), ()), [0] * 19_999)
        self.raises(Large, {"what": "parts"}, write, [0] * 20_000)
        self.assertEqual(len(write({"a": [0] * 9_998, "b": [1] * 9_999})) > 0, True)
        self.raises(Large, {"what": "parts"}, write, {"a": [0] * 9_999, "b": [1] * 9_999})

    def test_nothing_is_changed_and_the_list_is_new(self):
        value = {"b": [1, {"a": Data([1])}], "a": [[], {}]}
        before = copy.deepcopy(value)
        file = write(value=value)
        self.assertIsInstance(file, list)
        self.assertEqual(value, before)
        self.assertEqual(list(value), ["b", "a"])
        kept = list(file)
        file.clear()
        self.assertEqual(write(value), kept)
        value["a"].append(1)
        self.assertEqual(len(read(kept)), 10)

    def test_long_leaves(self):
        # Many different ones that look alike at both ends.
        worths = [[1] * 300 + [at] + [1] * 300 for at in range(30)]
        value = [Data(worth) for worth in worths] * 2 + [Wide([0] + worth) for worth in worths]
        value += [Data(worth) for worth in worths]
        self.assertEqual(write(value), slow.shortest(value))
        self.assertEqual(len(read(write(value))), 61)


class TestShrink(TestCase):
    def shrinks(self, file, expected):
        nest = read(file)
        self.assertEqual(shrink(nest), expected)
        self.assertEqual(octets(nest), file)
        again = read(expected)
        self.assertTrue(again == nest)
        self.assertEqual(shrink(nest=again), expected)
        self.assertEqual((unused(again), gaps(again), top(again)), ([], [], len(again) - 1))

    def test_all_files_of_a_value(self):
        value = [{"b": 7, "a": [7, "x"]}, "x", [7, "x"]]
        expected = write(value)
        leaves = [text("b"), text("a"), text("x"), integer(7)]
        self.shrinks(built(leaves + [array([3, 2]), dictionary([(0, 3), (1, 4)]), array([5, 2, 4])]), expected)
        twice = leaves + [wide([120], 1), integer(7, 4), array([5, 2], 1, 3), array([3, 4]),
                          dictionary([(1, 7), (0, 5)], 1, 2), NONE, array([8, 4, 6])]
        self.shrinks(built(twice), expected)
        self.shrinks(built(twice, offset_width=8, gaps={0: [1, 2, 3], 4: [9]}, tail=[1],
                           order=list(reversed(range(len(twice))))), expected)
        # The top object has the number 0, and all references take three bytes.
        wider = [array([1, 2, 5], 3), dictionary([(6, 5), (3, 4)], 3, 1), text("x"), text("b"), integer(7, 2),
                 array([4, 2], 3), wide([97])]
        self.shrinks(built(wider, 0, reference_width=3), expected)

    def test_each_top_object(self):
        objects = [integer(1), array([0, 0]), text("k"), dictionary([(2, 1)]), NONE]
        for at, value in enumerate((1, [1, 1], "k", {"k": [1, 1]}, None)):
            self.shrinks(built(objects, at), write(value))

    def test_values_that_write_refuses(self):
        # A chain: numbered from the top on, all lists 3 bytes long but the last one.
        for many in (102, 9_990):
            width = 1 if many <= 257 else 2
            lists = [array([at + 1], width) for at in range(many - 2)] + [array([]), array([0], width)]
            self.shrinks(chain(many), built(lists, reference_width=width))
        for many in (16, 6_900):
            width = 1 if many <= 257 else 2
            lists = [array([at + 1] * 2, width) for at in range(many - 2)] + [NONE, array([0, 0], width)]
            self.shrinks(doubling(many), built(lists, reference_width=width))
        # 30,000 parts.
        self.shrinks(built([NONE, array([0] * 299), array([1] * 100)]),
                     built([array([1] * 299), NONE, array([0] * 100)], order=[1, 2, 0]))

    def test_the_list_is_new(self):
        nest = read(write([7, 7]))
        shrink(nest).clear()
        self.assertEqual(shrink(nest), octets(nest))

    def test_a_file_with_most_objects(self):
        file = built([integer(at % 256) for at in range(9_999)] + [NONE], reference_width=2)
        self.assertEqual(shrink(read(file)), write(None))


class TestAccount(TestCase):
    NAMES = ["gaps", "unused", "twice", "wide", "references", "table"]

    def accounts(self, file, **expected):
        nest = read(file)
        told = account(nest)
        self.assertEqual(vars(told), {name: expected.get(name, 0) for name in self.NAMES})
        self.assertEqual(sum(vars(told).values()), len(file) - len(shrink(nest)))
        self.assertEqual(octets(nest), file)
        self.assertTrue(account(nest=nest) == told)

    def test_the_example(self):
        file = bytes.fromhex(
            "62706c697374303011000508000000000000010100000000000000010000000000000000000000000000000b")
        self.accounts(list(file), wide=1)

    def test_nothing_to_save(self):
        for value in (5, [], [7, 7], {"b": [1, {"a": "b"}]}, list(range(300)), "x" * 300):
            self.accounts(write(value))

    def test_gaps(self):
        pair = [integer(7), array([0, 0])]
        self.accounts(built(pair, gaps={0: [1, 2], 1: [3]}, tail=[4, 5, 6]), gaps=6)
        self.accounts(built([NONE], tail=[0] * 200), gaps=200)
        # They make the places greater, and so the table.
        self.accounts(built(pair, gaps={0: [0] * 300}), gaps=300, table=2)

    def test_unused_objects(self):
        self.accounts(built([integer(7), array([0, 0]), data([1, 2, 3]), TRUE], 1), unused=5, table=2)
        # What only unused objects refer to, and what is alike a used one.
        self.accounts(built([integer(7), array([0, 0]), text("abc"), array([2, 0]), integer(7), array([0, 0])], 1),
                      unused=4 + 3 + 2 + 3, table=4)

    def test_alike_objects(self):
        self.accounts(built([integer(7), integer(7), array([0, 1])]), twice=2, table=1)
        # The one with the smaller number is the first, whichever is longer.
        self.accounts(built([integer(7), integer(7, 4), array([0, 1])]), twice=17, table=1)
        self.accounts(built([integer(7, 4), integer(7), array([0, 1])]), twice=2, wide=15, table=1)
        self.accounts(built([integer(7, 4), integer(7), array([1, 0])]), twice=2, wide=15, table=1)
        self.accounts(built([text("a"), text("a"), dictionary([(0, 1)])]), twice=2, table=1)
        self.accounts(built([integer(7), array([0]), array([0]), array([1, 2])]), twice=2, table=1)
        self.accounts(built([text("k"), integer(1), dictionary([(0, 1), (3, 4)]), text("j"), integer(2),
                             dictionary([(3, 4), (0, 1)]), array([2, 5])]), twice=5, table=1)
        self.accounts(built([TRUE, integer(1), array([0, 1])]))
        # An unused one with a smaller number does not count.
        self.accounts(built([integer(7), integer(7), array([1])]), unused=2, table=1)

    def test_longer_objects_than_needed(self):
        for longer, shortest in ((integer(5, 1), 2), (integer(5, 4), 2), (integer(256, 3), 3), (integer(-1, 4), 9),
                                 (integer(2 ** 63, 4), 17), (uid(0, 16), 2), (uid(256, 4), 3),
                                 (data([1, 2], 0), 3), (data([1] * 15, 4), 18), (text("", 2), 1),
                                 (text("x" * 300, 3), 304),
                                 (wide([97, 98]), 3), (wide([37]), 2), (wide([]), 1), (wide([8364], 0), 3),
                                 (wide([97] * 15), 18), (wide([97] * 15, 4), 18), (array([], 1, 4), 1),
                                 (dictionary([], 1, 0), 1), (real([0] * 8), 9), (date([0] * 8), 9)):
            self.accounts(built([longer]), wide=len(longer) - shortest)
            width = least(8 + 2 + len(longer))
            self.accounts(built([longer, array([0])], order=[1, 0], offset_width=1),
                          wide=len(longer) - shortest)
            self.assertEqual(width, 1 if len(longer) < 246 else 2)
        self.accounts(built([NONE, array([0, 0], 1, 0)]), wide=2)
        self.accounts(built([text("k"), NONE, dictionary([(0, 1)], 1, 2)]), wide=5)

    def test_wider_references(self):
        self.accounts(built([NONE, array([0, 0], 3)], reference_width=3), references=4)
        self.accounts(built([text("a"), dictionary([(0, 0)], 8)], reference_width=8), references=14)
        # With references as they are: the size is too long, the references do not count twice.
        self.accounts(built([NONE, array([0, 0], 3, 1)], reference_width=3), references=4, wide=3)
        self.accounts(built([NONE], reference_width=8))
        self.accounts(built([array([])], reference_width=8))
        # Only the objects that are kept count.
        self.accounts(built([NONE, array([0], 2), array([0], 2), array([1, 2], 2), array([0], 2)], 3,
                            reference_width=2), twice=3, unused=3, references=3, table=2)
        # The shrunk file needs two bytes as well.
        leaves = [integer(at) for at in range(257)]
        self.accounts(built(leaves + [array(range(257), 2)], reference_width=2))
        self.accounts(built(leaves + [array(range(257), 3)], reference_width=3), references=257)
        self.accounts(built(leaves[:256] + [array(range(256), 2)], reference_width=2), references=256)

    def test_a_longer_table(self):
        self.accounts(built([NONE], offset_width=8), table=7)
        self.accounts(built([integer(7), array([0, 0])], offset_width=3), table=4)
        long_one = data([1] * 300)
        self.accounts(built([long_one, NONE, array([0, 1])]), table=3)
        self.accounts(built([long_one, NONE, array([0, 1])], order=[1, 2, 0]))

    def test_several_at_once(self):
        objects = [integer(7, 2), integer(7), wide([97, 98], 0), dictionary([(2, 0), (6, 8)], 2), data([1, 2]),
                   array([4], 2), text("k"), TRUE, array([0, 1, 6], 2, 1), array([3, 3], 2)]
        # {"ab": 7, "k": [7, 7, "k"]} twice; 4, 5 and 7 are unused, 1 is alike 0.
        self.accounts(built(objects, reference_width=2, offset_width=3, gaps={1: [1, 2], 9: [3]}, tail=[4]),
                      gaps=4, unused=3 + 3 + 1, twice=2, wide=3 + 4 + 3, references=4 + 3 + 2,
                      table=3 * 10 - 1 * 6)

    def test_fields(self):
        made = Account(gaps=1, unused=2, twice=3, wide=4, references=5, table=6)
        self.assertEqual(vars(made), dict(zip(self.NAMES, range(1, 7))))
        self.assertEqual(vars(Account(1, 2, 3, 4, 5, 6)), vars(made))
        self.assertIs(made == Account(1, 2, 3, 4, 5, 6), True)
        for name in self.NAMES:
            other = Account(**(vars(made) | {name: 0}))
            self.assertIs(made == other, False)
            self.assertIs(made != other, True)
        for other in (None, (1, 2, 3, 4, 5, 6), vars(made), 1):
            self.assertIs(made == other, False)

    def test_values_that_cannot_be_written_out(self):
        self.accounts(doubling(6_900))
        self.accounts(chain(9_990))
        twins = [NONE, NONE]
        for at in range(0, 4_000, 2):
            twins += [array([at, at + 1], 2), array([at + 1, at], 2)]
        self.accounts(built(twins, reference_width=2), unused=5, twice=1 + 1_999 * 5, table=2 * 2_001)


class TestEntries(TestCase):
    def test_what_is_written_is_read(self):
        value = [None, {"a": Data([1]), "b": [Uid(5), Wide([233])]}, Real(EIGHT), Date(EIGHT), -5, "x"]
        nest = read(write(value))
        self.assertEqual([one.kind for one in entries(nest)],
                         ["none", "dictionary", "string", "string", "data", "list", "uid", "string", "real", "date",
                          "integer", "string", "list"])
        self.assertEqual(part(nest, ()), value)

    def test_sizes_stand_in_the_marker_below_15(self):
        self.assertEqual(sized(0xA, 14), [0xAE])
        for many in (14, 15, 255, 256):
            file = write([None] * many)
            self.assertEqual(file[9:9 + len(sized(0xA, many))], sized(0xA, many))
            keys = {"k" + str(at): None for at in range(many)}
            objects = [text(key) for key in sorted(keys)] + [NONE]
            width = 1 if many < 256 else 2
            objects += [dictionary([(at, many) for at in range(many)], width)]
            self.assertEqual(write(keys), built(objects, reference_width=width))


if __name__ == "__main__":
    unittest.main()
