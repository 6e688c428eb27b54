import copy
import unittest

from nestfile.errors import Large, NoValue
from nestfile.values import Data, Date, Real, Uid, Wide, alike, check

EIGHT = [1, 2, 3, 4, 5, 6, 7, 8]
# One value of each kind, all of them different in kind.
KINDS = [None, True, 1, "1", Wide([233]), Data([1]), Uid(1), Real(EIGHT), Date(EIGHT), [1], {"1": 1}]


class Stranger:
    """An object of another class with all fields that values have."""

    def __init__(self):
        self.units = (233,)
        self.octets = tuple(EIGHT)
        self.number = 1

    def __eq__(self, other):
        return NotImplemented


def nested(depth, leaf=None):
    """A value of this depth, of lists and dictionaries in turn."""
    value = leaf
    for at in range(depth):
        value = [value] if at % 2 else {"k": value}
    return value


class TestConstructors(unittest.TestCase):
    def refuses(self, made, *wrong):
        for one in wrong:
            with self.subTest(made=made.__name__, wrong=repr(one)[:60]):
                with self.assertRaises(NoValue) as caught:
                    made(one)
                self.assertEqual(caught.exception.path, ())

    def test_fields_have_the_names_of_the_parameters(self):
        self.assertEqual(vars(Wide(units=[37])), {"units": (37,)})
        self.assertEqual(vars(Data(octets=[0, 255])), {"octets": (0, 255)})
        self.assertEqual(vars(Uid(number=5)), {"number": 5})
        self.assertEqual(vars(Real(octets=EIGHT)), {"octets": tuple(EIGHT)})
        self.assertEqual(vars(Date(octets=EIGHT)), {"octets": tuple(EIGHT)})

    def test_sequences_are_kept_as_tuples(self):
        for made, key in ((Wide, "units"), (Data, "octets"), (Real, "octets"), (Date, "octets")):
            given = [200, 2, 3, 4, 5, 6, 7, 8]
            one = made(given)
            given[0] = 201
            self.assertEqual(vars(one)[key], (200, 2, 3, 4, 5, 6, 7, 8))
            self.assertIsInstance(vars(one)[key], tuple)
            self.assertEqual(made(tuple(given)), made(given))

    def test_wide(self):
        for units in ([37], [31], [127], [0], [65535], [97, 37], [10] + [97] * 50, (233,)):
            self.assertEqual(Wide(units).units, tuple(units))
        self.refuses(Wide, [], (), [97], [32, 126], [65536], [-1], [233, -1], [233, 65536], [True], [233, True],
                     [233.0], ["a"], "ab", "\u00e9", 233, None, {233: 1}, {233}, b"\xe9", [[233]], object())

    def test_data(self):
        for octets in ([], (), [0], [255, 0], [1] * 3000):
            self.assertEqual(Data(octets).octets, tuple(octets))
        self.refuses(Data, [256], [-1], [1, 256], [True], [False], [1.0], ["a"], [None], "", "ab", 5, None, {}, {1: 2},
                     {1}, b"ab", range(3), iter([1]), object())

    def test_uid(self):
        for number in (0, 1, 2 ** 64 - 1):
            self.assertEqual(Uid(number).number, number)
        self.refuses(Uid, -1, 2 ** 64, True, False, 1.0, "1", None, [1], (1,), 10 ** 3999, object())

    def test_real(self):
        for octets in ([0, 0, 0, 0], (255,) * 8):
            self.assertEqual(Real(octets).octets, tuple(octets))
        self.refuses(Real, [], [0] * 3, [0] * 5, [0] * 7, [0] * 9, [0, 0, 0, 256], [0, 0, 0, True], "abcd", 1.5, 4,
                     None, b"abcd", {0: 0, 1: 1, 2: 2, 3: 3})

    def test_date(self):
        for octets in ([0] * 8, (255,) * 8):
            self.assertEqual(Date(octets).octets, tuple(octets))
        self.refuses(Date, [], [0] * 4, [0] * 7, [0] * 9, [0] * 7 + [256], [0] * 7 + [-1], [0] * 7 + [False],
                     "abcdefgh", 8, None, b"abcdefgh")


class TestEquality(unittest.TestCase):
    def test_equal_fields_of_one_class(self):
        self.assertTrue(Wide([233]) == Wide((233,)))
        self.assertTrue(Data([]) == Data(()))
        self.assertTrue(Uid(5) == Uid(5))
        self.assertTrue(Real([0] * 4) == Real([0] * 4))
        self.assertTrue(Date([0] * 8) == Date([0] * 8))
        self.assertFalse(Uid(5) != Uid(5))

    def test_other_fields(self):
        self.assertFalse(Wide([233]) == Wide([233, 97]))
        self.assertFalse(Data([1]) == Data([2]))
        self.assertFalse(Uid(0) == Uid(1))
        self.assertFalse(Real([0] * 4) == Real([0] * 8))
        self.assertFalse(Real([0] * 3 + [128]) == Real([0] * 4))
        self.assertFalse(Date([0] * 8) == Date([0] * 7 + [1]))
        self.assertTrue(Date([0] * 8) != Date([0] * 7 + [1]))

    def test_never_equal_to_objects_of_other_classes(self):
        for one in (Wide([233]), Data(EIGHT), Uid(1), Real(EIGHT), Date(EIGHT)):
            same = [other for other in (Wide([233]), Data(EIGHT), Uid(1), Real(EIGHT), Date(EIGHT)) if one == other]
            self.assertEqual(len(same), 1)
            for other in (Stranger(), 1, (233,), EIGHT, tuple(EIGHT), "1", None, True):
                self.assertIs(one == other, False)
                self.assertIs(other == one, False)
                self.assertIs(one != other, True)


class TestCheck(unittest.TestCase):
    def refuses(self, value, path):
        with self.subTest(repr(value)[:60]):
            with self.assertRaises(NoValue) as caught:
                check(value)
            self.assertEqual(caught.exception.path, path)
            self.assertIsInstance(caught.exception.path, tuple)

    def large(self, value, what):
        with self.assertRaises(Large) as caught:
            check(value)
        self.assertEqual(caught.exception.what, what)

    def test_values_of_each_kind(self):
        for value in KINDS + [False, "", " !$&~", [], {}, {"": 0}, -(2 ** 63), 2 ** 64 - 1, 0, Data([]), KINDS,
                              {"a b": KINDS, "\"": [{}]}]:
            self.assertIsNone(check(value))
        self.assertIsNone(check(value=[1, {"a": "b"}]))

    def test_the_example(self):
        self.refuses([1, {"a": (2,)}], (1, "a"))

    def test_things_that_are_no_values(self):
        for thing in (1.5, (), (1,), {1}, b"", b"ab", object(), Stranger(), int, len, range(3), iter([]), 2 ** 64,
                      -(2 ** 63) - 1, 10 ** 3999, "%", "a%", "\n", "\x1f", "\x7f", "\u00e9", "a\u20ac", 1j,
                      frozenset(), bytearray(), NotImplemented, ...):
            self.refuses(thing, ())
            self.refuses([thing], (0,))
            self.refuses({"k": [0, thing]}, ("k", 1))

    def test_a_dictionary_with_a_wrong_key_is_itself_wrong(self):
        for key in (1, None, True, ("a",), 1.5, b"a", "%", "\t", "\u00e9", "a\x7f"):
            self.refuses({key: 1}, ())
            self.refuses([0, {"a": {"b": 1, key: 2}}], (1, "a"))
            # The dictionary stands before its members.
            self.refuses({"a": 1.5, key: 2}, ())

    def test_a_wide_is_no_key(self):
        made = Wide([233])
        with self.assertRaises(TypeError):
            {made: 1}

    def test_the_first_of_several_wrong_parts(self):
        self.refuses([1.5, 2.5], (0,))
        self.refuses([[0, [2.5]], 1.5], (0, 1, 0))
        self.refuses({"b": 1.5, "a": [0, 2.5]}, ("a", 1))
        self.refuses({"b": 1.5, "B": 2.5}, ("B",))
        self.refuses({"ab": 1.5, "a": 2.5, "": 3.5}, ("",))
        self.refuses({"a10": 1.5, "a9": 2.5}, ("a10",))
        self.refuses([[], {}, {"x": [[], ()]}, ()], (2, "x", 1))
        self.refuses([0] * 10 + [1.5, 2.5], (10,))
        self.refuses([{"z": {"a": 1}, "y": {1: 1}}, {"a": 1.5}], (0, "y"))

    def test_depth(self):
        for depth in (0, 1, 98, 99, 100):
            self.assertIsNone(check(nested(depth)))
            self.assertIsNone(check(nested(depth, [])))
            self.assertIsNone(check(nested(depth, {})))
        for depth in (101, 102, 299):
            self.large(nested(depth), "depth")
        self.large(nested(100, [0]), "depth")
        # The greatest depth counts, wherever it is.
        self.large([0, nested(100), 0], "depth")
        self.large({"a": nested(100), "b": []}, "depth")

    def test_parts(self):
        for many in (19_999, 20_000):
            self.assertIsNone(check([0] * (many - 1)))
            self.assertIsNone(check({str(at): at for at in range(many - 1)}))
        for many in (20_001, 20_002, 99_999):
            self.large([0] * (many - 1), "parts")
        self.large({str(at): at for at in range(20_000)}, "parts")

    def test_keys_are_no_parts_and_shared_parts_count_each_time(self):
        shared = [0] * 99
        self.assertIsNone(check([shared] * 199 + [0] * 99))
        self.large([shared] * 200, "parts")
        self.assertIsNone(check([{"a": 1, "b": 2}] * 6666 + [0]))
        self.large([{"a": 1, "b": 2}] * 6667, "parts")

    def test_what_goes_first_if_a_value_has_several_faults(self):
        self.refuses([nested(101), [0] * 30_000, 1.5], (2,))
        self.refuses([[0] * 30_000, {"%": 0}], (1,))
        self.refuses([nested(120, 1.5)], (0,) + self.steps(120))
        self.large([[0] * 30_000, nested(100)], "depth")
        self.large([nested(100), [0] * 30_000], "depth")

    def test_values_near_the_limits_of_three_forms(self):
        for many in (19_999, 20_000, 20_001):
            members = {"k" + str(at): None for at in range(many - 1)}
            items = [0] * (many - 1)
            rows = [[0] * 98] * 201 + [0] * (many - 19_900)
            for value in (members, items, rows):
                before = repr(value)
                if many <= 20_000:
                    self.assertIsNone(check(value))
                else:
                    self.large(value, "parts")
                self.assertEqual(repr(value), before)
            for wrong in (1.5, (), "%", 2 ** 64, {1: 1}, [{"a": [None, b""]}]):
                path = (0, "a", 1) if isinstance(wrong, list) else ()
                self.refuses(members | {"k9999": wrong, "z": 1.5}, ("k9999",) + path)
                self.refuses({"%": 0} | members | {"k9999": wrong}, ())
                for at in (0, 1, 9_999, many - 2):
                    self.refuses(items[:at] + [wrong] + items[at + 1:] + [1.5], (at,) + path)
                    self.refuses(items[:at] + [[wrong]] + items[at + 1:] + [1.5], (at, 0) + path)
                for at in (0, 100, 200):
                    changed = rows[:at] + [[0] * 97 + [wrong, 1.5]] + rows[at + 1:]
                    self.refuses(changed, (at, 97) + path)
                    self.refuses(changed + [1.5], (at, 97) + path)
                    self.refuses(changed[:at] + [1.5] + changed[at:], (at,))
            self.large(items[1:] + [nested(100)], "depth")
            self.refuses(items[1:] + [nested(101, 1.5)], (many - 2,) + self.steps(101))

    def test_the_first_wrong_part_at_any_depths(self):
        # Each deeper one stands before all that are less deep.
        value = 1.5
        for at in range(100):
            value = [0, value, 2.5] if at % 2 else {"b": value, "c": 2.5, "a": [[]]}
            self.refuses(value, tuple(1 if up % 2 else "b" for up in reversed(range(at + 1))))
        # And here behind them.
        value = 1.5
        for _ in range(100):
            value = [[[]], 2.5, value]
            self.refuses(value, (1,))

    def test_arguments_that_are_like_values(self):
        class Text(str):
            pass

        class Number(int):
            pass

        class Row(list):
            pass

        class Table(dict):
            pass

        for value in (Text("a"), Number(5), Row([1]), Table({Text("a"): Row()})):
            self.assertIsNone(check([value, value]))
        self.refuses([0, Text("%")], (1,))
        self.refuses([0, Number(2 ** 64)], (1,))
        self.refuses([0, Row([1, 1.5])], (1, 1))
        self.refuses([0, Table({"b": 1.5, Text("a"): ()})], (1, "a"))

    def test_all_characters(self):
        for at in list(range(300)) + [8364, 0xD800, 0xFF21, 0x1F600]:
            plain = 32 <= at <= 126 and at != 37
            for value, path in ((chr(at), ()), ({chr(at): 0}, ()), (["a" + chr(at) + "b"], (0,)),
                                ({"k": chr(at)}, ("k",))):
                if plain:
                    self.assertIsNone(check(value))
                else:
                    self.refuses(value, path)

    def steps(self, depth):
        """The steps to the leaf of what `nested` makes."""
        return tuple(0 if at % 2 else "k" for at in reversed(range(depth)))

    def test_nothing_is_changed(self):
        value = {"b": [1, {"a": Data([1])}], "a": [[], {}]}
        before = copy.deepcopy(value)
        check(value)
        alike(value, value)
        self.assertEqual(value, before)
        self.assertEqual(list(value), ["b", "a"])


class TestAlike(unittest.TestCase):
    def test_the_example(self):
        self.assertIs(alike(True, 1), False)
        self.assertIs(alike({"a": 1, "b": 2}, {"b": 2, "a": 1}), True)

    def test_kinds_are_never_mixed(self):
        for at, one in enumerate(KINDS):
            for other_at, other in enumerate(KINDS):
                self.assertIs(alike(one, other), at == other_at)
                self.assertIs(alike([one], [other]), at == other_at)
                self.assertIs(alike({"k": one}, {"k": other}), at == other_at)
        for one, other in ((False, 0), (None, False), (None, 0), ("", Data([])), ([], {}), ("", None), ([], "")):
            self.assertIs(alike(one, other), False)
            self.assertIs(alike(other, one), False)

    def test_parts_one_by_one(self):
        self.assertIs(alike([1, [2, "x"]], [1, [2, "x"]]), True)
        self.assertIs(alike([1, [2, "x"]], [1, [2, "y"]]), False)
        self.assertIs(alike([1, 2], [2, 1]), False)
        self.assertIs(alike([1], [1, 1]), False)
        self.assertIs(alike([1, 1], [1]), False)
        self.assertIs(alike([], [None]), False)
        self.assertIs(alike({"a": 1}, {"a": 2}), False)
        self.assertIs(alike({"a": 1}, {"b": 1}), False)
        self.assertIs(alike({"a": 1}, {"a": 1, "b": 1}), False)
        self.assertIs(alike({"a": [0, True]}, {"a": [0, 1]}), False)
        self.assertIs(alike({}, {}), True)
        self.assertIs(alike(one=-5, other=-5), True)

    def test_objects_by_class_and_fields(self):
        self.assertIs(alike(Data([1]), Data([1])), True)
        self.assertIs(alike(Wide([233]), Wide([234])), False)
        self.assertIs(alike(Real([0] * 4), Real([0] * 8)), False)
        self.assertIs(alike(Real([0] * 8), Date([0] * 8)), False)
        # The bytes are compared, not the numbers that they stand for.
        self.assertIs(alike(Real([128, 0, 0, 0]), Real([0, 0, 0, 0])), False)
        self.assertIs(alike(Real([127, 192, 0, 0]), Real([127, 192, 0, 0])), True)

    def test_long_and_deep_values(self):
        self.assertIs(alike(nested(100), nested(100)), True)
        self.assertIs(alike(nested(100, 1), nested(100, True)), False)
        self.assertIs(alike([0] * 19_999, [0] * 19_998 + [False]), False)
        self.assertIs(alike([0] * 19_999, [0] * 19_999), True)

    def test_the_values_are_checked_in_their_order(self):
        with self.assertRaises(NoValue) as caught:
            alike([1.5], {"a": 1.5})
        self.assertEqual(caught.exception.path, (0,))
        with self.assertRaises(NoValue) as caught:
            alike(1, {"a": 1.5})
        self.assertEqual(caught.exception.path, ("a",))
        with self.assertRaises(Large) as caught:
            alike(nested(101), 1.5)
        self.assertEqual(caught.exception.what, "depth")
        with self.assertRaises(Large) as caught:
            alike(0, [0] * 20_000)
        self.assertEqual(caught.exception.what, "parts")


if __name__ == "__main__":
    unittest.main()
