import random
import unittest

import slow
import slow_texts
from nestfile.errors import BadText, Large, NestError, NoBytes, NoValue
from nestfile.files import read
from nestfile.nesttexts import hex_text, path_text, read_hex, read_path, read_value, value_text
from nestfile.paths import part
from nestfile.values import Data, Date, Real, Uid, Wide, alike
from nestfile.webs import parting
from nestfile.writing import write
from test_fuzz_values import random_value

PLAIN = "".join([chr(k) for k in range(32, 127) if k != 37])
TEXTS = [
    (None, "null"), (True, "true"), (False, "false"), (0, "0"), (7, "7"), (-5, "-5"), (2 ** 64 - 1, str(2 ** 64 - 1)),
    (-(2 ** 63), str(-(2 ** 63))), (100, "100"), ("", '""'), ("a b", '"a b"'), ('"', '"\\""'), ("\\", '"\\\\"'),
    ('\\"x', '"\\\\\\"x"'), ("null", '"null"'), ("/[]{},:'", '"/[]{},:\'"'), (Wide([233]), "w00e9"),
    (Wide([97, 65535, 37]), "w0061ffff0025"), (Data([]), "d"), (Data([0, 171, 255]), "d00abff"), (Uid(0), "u0"),
    (Uid(2 ** 64 - 1), "u" + str(2 ** 64 - 1)), (Real([1, 2, 3, 255]), "r010203ff"),
    (Real([0, 1, 2, 3, 4, 5, 6, 175]), "r00010203040506af"), (Date([0] * 7 + [16]), "t0000000000000010"), ([], "[]"),
    ([1], "[1]"), ([[], [None, True], "a,b"], '[[],[null,true],"a,b"]'), ({}, "{}"), ({"a": 1}, '{"a":1}'),
    ({"": {}, '"': [1], "\\": "x"}, '{"":{},"\\"":[1],"\\\\":"x"}'), ([{"a": [{"a": Data([1])}]}], '[{"a":[{"a":d01}]}]'),
    (PLAIN, '"' + PLAIN.replace("\\", "\\\\").replace('"', '\\"') + '"'),
]


def outcome(function, *arguments):
    try:
        return function(*arguments)
    except NestError as error:
        return type(error), vars(error)


def bad(place):
    return BadText, {"place": place}


class TestValueTexts(unittest.TestCase):
    def test_each_kind_both_ways(self):
        for value, text in TEXTS:
            with self.subTest(text):
                self.assertEqual(value_text(value), text)
                self.assertIs(type(value_text(value)), str)
                self.assertTrue(alike(read_value(text), value))
                self.assertIs(type(read_value(text)), type(value))

    def test_keys_are_written_ascending_and_read_in_any_order(self):
        text = '{"":0,"A":1,"a":2,"aa":3,"b":4,"~":5}'
        self.assertEqual(value_text({"b": 4, "~": 5, "aa": 3, "a": 2, "A": 1, "": 0}), text)
        self.assertEqual(read_value('{"b":4,"a":{"d":1,"c":2}}'), {"a": {"c": 2, "d": 1}, "b": 4})
        self.assertEqual(value_text(read_value('{"b":[{"y":1,"x":2}],"a":4}')), '{"a":4,"b":[{"x":2,"y":1}]}')

    def test_value_text_checks(self):
        deep = []
        for _ in range(100):
            deep = [deep]
        self.assertEqual(value_text(deep), "[" * 101 + "]" * 101)
        self.assertEqual(outcome(value_text, [deep]), (Large, {"what": "depth"}))
        self.assertEqual(outcome(value_text, [0] * 20_000), (Large, {"what": "parts"}))
        self.assertEqual(outcome(value_text, [1, {"a": (2,)}]), (NoValue, {"path": (1, "a")}))
        self.assertEqual(outcome(value_text, ["%"]), (NoValue, {"path": (0,)}))
        self.assertEqual(outcome(value_text, 2 ** 64), (NoValue, {"path": ()}))

    def test_arguments_stay_and_results_are_new(self):
        value = {"b": [1, {"a": 2}], "a": []}
        self.assertEqual(value_text(value=value), '{"a":[],"b":[1,{"a":2}]}')
        self.assertEqual(list(value), ["b", "a"])
        text = '[[1],[1],{"a":[]},{"a":[]}]'
        one = read_value(text=text)
        one[0].append(5)
        one[2]["a"].append(5)
        self.assertEqual(one, [[1, 5], [1], {"a": [5]}, {"a": []}])
        self.assertEqual(read_value(text), [[1], [1], {"a": []}, {"a": []}])


class TestMalformedTexts(unittest.TestCase):
    def assert_bad(self, place, *texts):
        for text in texts:
            with self.subTest(text):
                self.assertEqual(outcome(read_value, text), bad(place))
                self.assertEqual(slow_texts.fault(text), place)

    def assert_as_slow(self, text):
        place = slow_texts.fault(text)
        found = outcome(read_value, text)
        if place is None:
            self.assertFalse(type(found) is tuple and found[0] is BadText, text)
        else:
            self.assertEqual(found, bad(place), text)

    def test_what_cannot_begin_a_value(self):
        self.assert_bad(0, "", " ", "]", "}", ",", ":", "x", "N", "T", "+1", ".5", "'a'", "\\", "a", "e", "(1)", "/")

    def test_what_ends_too_early(self):
        for text in ("[", "{", '"', '"a', '"\\', "-", "n", "nul", "tru", "t", "fals", "[1", "[1,", '{"', '{"a', '{"a"',
                     '{"a":', '{"a":1', '{"a":1,', '{"a":1,"', "w", "w0", "w000", "w00e90", "w00e9000", "d0", "d000",
                     "u", "r", "r0000000", "r000000000", "r" + "0" * 15, "t" + "0" * 15, "[[]", '[{"a":[]}'):
            self.assert_bad(len(text), text)
        for _, text in TEXTS:
            for end in range(len(text)):
                self.assertIn(slow_texts.fault(text[:end]), (None, end))
                self.assert_as_slow(text[:end])

    def test_what_stands_behind_a_value(self):
        for _, text in TEXTS:
            if text[0] not in "wd":
                self.assert_bad(len(text), text + " ", text + "]", text + ",", text + "}", text + ":", text + "x")
        self.assert_bad(5, "w00e9 ", "w00e9g", "w00e9A")
        self.assert_bad(7, "w00e900")
        self.assert_bad(4, "null1", "nulln", "true ", "true,")

    def test_words(self):
        self.assert_bad(3, "nulx", "nulL", "tru1", "fal ", "fal]")
        self.assert_bad(1, "nil", "tx", "fx", "t ", "t\"", "f0", "n]")
        self.assert_bad(2, "tra", "tr0", "faa")

    def test_integers(self):
        self.assert_bad(1, "-", "--1", "-a", "-0", "-01", "-]", "- 1", "00", "01", "0x", "0.", "1.", "1e", "1 ", "1-", "7a")
        self.assert_bad(4, "[1,02]", "[1,-0]")
        self.assert_bad(3, "[1,]", "[1, 2]", "[1,,2]", "[1,.5]")
        self.assert_bad(2, "12.", "10e", "-1 ")
        self.assert_bad(20, "1" * 21, "9" * 25, "1" + "0" * 20)
        self.assert_bad(21, "-" + "1" * 21, "[" + "1" * 20 + "1]")
        self.assert_bad(22, "[-" + "1" * 20 + "1]")
        self.assertEqual(read_value("1" + "0" * 19), 10 ** 19)
        self.assertEqual(read_value("0"), 0)
        self.assertEqual(read_value("[0,-1,10]"), [0, -1, 10])

    def test_strings(self):
        self.assert_bad(2, '"\\n"', '"\\a"', '"\\/"', '"\\ "', '"\\u0041"', '"\\')
        self.assert_bad(3, '"a\\b"', '"a" ', '"a"b', '"a""b"', '[""x]')
        self.assert_bad(5, '"a\\"b')
        self.assert_bad(4, '"\\\\"b')
        self.assertEqual(read_value('"\\\\\\""'), '\\"')
        self.assert_bad(1, '"%"', '"\n"', '"\t"', '"\u00e9"', '"\x7f"')

    def test_lists(self):
        self.assert_bad(1, "[,", "[}", "[:", "[ ]", "[x", "[", "[)")
        self.assert_bad(2, "[1", "[1 ]", "[1}", "[1:2]", "[1;2]", "[]]", "[],", "[[", "[{]", "[[,")
        self.assert_bad(3, "[1,]", "[1,}", "[1,", "[[]}", "[[] ", "[[]")

    def test_dictionaries(self):
        self.assert_bad(1, "{,", "{]", "{:", "{ }", "{a", "{1", "{", "{n", "{{", "{[")
        self.assert_bad(4, '{"a"', '{"a",', '{"a"}', '{"a" ', '{"a"=')
        self.assert_bad(5, '{"a":', '{"a":}', '{"a":,', '{"a": 1}', '{"a":]')
        self.assert_bad(6, '{"a":1', '{"a":1 ', '{"a":1]', '{"a":1:', '{"a":1;')
        self.assert_bad(7, '{"a":1,', '{"a":1,}', '{"a":1, ', '{"a":1,1', '{"a":1,,', '{"a":1,a')

    def test_keys_that_were_met_before(self):
        self.assert_bad(7, '{"a":1,"a":2}', '{"a":1,"a"', '{"a":1,"a"x', '{"a":1,"a"\n')
        self.assert_bad(9, '{"a":1,"a')
        self.assert_bad(15, '{"a":1,"bb":[],"a":2}')
        self.assert_bad(13, '{"a":{"b":0},"a":2}')
        self.assert_bad(12, '{"b":{"a":1,"a":2}}')
        self.assert_bad(8, '{"\\"":1,"\\"":2}')
        self.assert_bad(6, '{"":1,"":2}')
        # Outer dictionaries and those beside are others, and so are keys that only look alike.
        self.assertEqual(read_value('{"a":{"a":{"a":1}}}'), {"a": {"a": {"a": 1}}})
        self.assertEqual(read_value('[{"a":1},{"a":1}]'), [{"a": 1}, {"a": 1}])
        self.assertEqual(read_value('{"a":"a","b":["a"],"aa":1,"A":1}'), {"a": "a", "b": ["a"], "aa": 1, "A": 1})
        # A fault behind a key that is met again is not the first one, but one before it is.
        self.assert_bad(7, '{"a":1,"a":x}')
        self.assert_bad(5, '{"a":x,"a":1}')

    def test_wide(self):
        self.assert_bad(1, "w", "wg", "w]", "wE", "w ", "w\"")
        self.assert_bad(4, "w000", "w000,", "w00eg", "w00eE", "w00e]")
        self.assert_bad(6, "w00e90", "w00e90,")
        self.assert_bad(5, "[w00e]", "[w000", "[w00e,")
        self.assert_bad(6, "[w00e9 ]")
        self.assert_bad(7, "[w00e90]")

    def test_data(self):
        self.assert_bad(2, "d0", "d0g", "d0]", "d0 ", "d0A", "[d", "[d}")
        self.assert_bad(1, "dg", "d]", "d ", "dA", "d-")
        self.assert_bad(4, "d012", "[d01")
        self.assert_bad(3, 'd01"', "d01-", "d01 ")
        self.assertEqual(read_value("[d,d]"), [Data([]), Data([])])

    def test_uids(self):
        self.assert_bad(1, "u", "u-1", "ua", "u]", "u ")
        self.assert_bad(2, "u00", "u01", "u0a", "u1a")
        self.assert_bad(21, "u" + "1" * 21)

    def test_reals_and_dates(self):
        for digits in range(1, 17):
            text = "r" + "0" * digits
            if digits in (8, 16):
                self.assertEqual(read_value(text), Real([0] * (digits // 2)))
                self.assert_bad(digits + 1, text + "g", text + "]", text + "A")
            else:
                self.assert_bad(digits + 1, text, text + "]", text + "g", text + ",")
        self.assert_bad(17, "r" + "0" * 17, "r" + "0" * 24, "t" + "0" * 17, "t" + "0" * 18)
        for digits in range(1, 16):
            self.assert_bad(digits + 1, "t" + "0" * digits, "t" + "0" * digits + "]", "t" + "f" * digits + "r")
        self.assertEqual(read_value("[t0123456789abcdef,r01234567]"), [Date([1, 35, 69, 103, 137, 171, 205, 239]),
                                                                       Real([1, 35, 69, 103])])

    def test_fifty_deep(self):
        for depth in (49, 50, 51):
            text = "[" * depth + "]" * depth
            self.assertEqual(value_text(read_value(text)), text)
            self.assert_bad(depth, "[" * depth + "}", "[" * depth)
            text = '{"a":' * depth + "0" + "}" * depth
            self.assertEqual(value_text(read_value(text)), text)
            self.assert_bad(6 * depth, text[:-1] + "]", text[:-1])
        mixed = '[{"a":' * 25 + "d" + "}]" * 25
        self.assertEqual(value_text(read_value(mixed)), mixed)

    def test_every_change_of_one_character(self):
        signs = '"\\[]{},:-019afrtuwdnlsex A%'
        for _, text in TEXTS[:-1]:
            for at in range(len(text)):
                self.assert_as_slow(text[:at] + text[at + 1:])
                for one in signs:
                    self.assert_as_slow(text[:at] + one + text[at + 1:])
                    self.assert_as_slow(text[:at] + one + text[at:])

    def test_random_texts(self):
        dice = random.Random(61)
        signs = '"\\[]{},:-019afrtuwdn x'
        for _ in range(3_000):
            value = random_value(dice, 4)
            text = value_text(value)
            self.assertEqual(slow.sign(read_value(text)), slow.sign(value))
            self.assertIsNone(parting(read(write(value)), read(write(read_value(text)))))
            at = dice.randrange(len(text) + 1)
            put = "".join(dice.choices(signs, k=dice.randrange(3)))
            self.assert_as_slow(text[:at] + put + text[at + dice.randrange(2):])


class TestTextsOfNoValues(unittest.TestCase):
    def assert_no_value(self, text, path):
        self.assertIsNone(slow_texts.fault(text))
        self.assertEqual(outcome(read_value, text), (NoValue, {"path": path}))

    def test_out_of_range(self):
        self.assert_no_value(str(2 ** 64), ())
        self.assert_no_value(str(-(2 ** 63) - 1), ())
        self.assert_no_value("9" * 20, ())
        self.assert_no_value("-" + "9" * 20, ())
        self.assert_no_value("u" + str(2 ** 64), ())
        self.assert_no_value("[1,u" + "9" * 20 + "]", (1,))

    def test_wide_of_plain_characters_alone(self):
        self.assert_no_value("w0061", ())
        self.assert_no_value("w00200041007e", ())
        self.assert_no_value('{"a":[w0061]}', ("a", 0))
        for text in ("w0025", "w007f", "w001f", "w00610080"):
            self.assertIs(type(read_value(text)), Wide)

    def test_the_first_one_in_the_order_of_paths(self):
        wrong = "9" * 20
        self.assert_no_value(f'{{"b":{wrong},"a":w0061}}', ("a",))
        self.assert_no_value(f'[[0,u{wrong}],{wrong}]', (0, 1))
        self.assert_no_value(f'{{"b":1,"a":{{"y":{wrong},"x":[0,w0041]}}}}', ("a", "x", 1))
        self.assert_no_value(f'{{"a":{{"y":{wrong}}},"A":[u{wrong}]}}', ("A", 0))

    def test_malformed_texts_come_first(self):
        wrong = "9" * 20
        self.assertEqual(outcome(read_value, f"[{wrong},]"), bad(22))
        self.assertEqual(outcome(read_value, f"{wrong} "), bad(20))
        self.assertEqual(outcome(read_value, '{"a":w0061,"a":1}'), bad(11))

    def test_large_comes_last(self):
        deep = "[" * 101 + "0" + "]" * 101
        self.assertEqual(outcome(read_value, deep), (Large, {"what": "depth"}))
        self.assertEqual(outcome(read_value, deep.replace("0", "w0061")), (NoValue, {"path": (0,) * 101}))
        self.assertEqual(outcome(read_value, deep[:-1]), bad(202))


class TestHexTexts(unittest.TestCase):
    def test_both_ways(self):
        for data, text in (([], ""), ([0], "00"), ([255, 16, 1], "ff1001"), (list(range(256)), bytes(range(256)).hex())):
            self.assertEqual(hex_text(data), text)
            self.assertEqual(hex_text(tuple(data)), text)
            self.assertEqual(read_hex(text), data)
            self.assertIs(type(read_hex(text)), list)
        file = write({"a": [1, 2, Wide([233])]})
        self.assertEqual(read_hex(text=hex_text(data=file)), file)

    def test_no_bytes(self):
        for data, place in (([256], 0), ([0, -1], 1), ([0, True], 1), ([False], 0), ([0, None, 300], 1), ([1, "a"], 1),
                            ([1, 2, [3]], 2), ([1, 2.0], 1)):
            self.assertEqual(outcome(hex_text, data), (NoBytes, {"place": place}))

    def test_malformed(self):
        for text, place in (("0", 1), ("000", 3), ("0g", 1), ("g", 0), ("0A", 1), ("FF", 0), (" 00", 0), ("00 ", 2),
                            ("00 00", 2), ("0x00", 1), ("00\n", 2), ("0\u0660", 1), ("a-", 1), ("000G0", 3), ("+0", 0)):
            self.assertEqual(outcome(read_hex, text), bad(place))

    def test_long_texts(self):
        data = [k & 255 for k in range(50_000)]
        self.assertEqual(read_hex(hex_text(data)), data)


class TestPathTexts(unittest.TestCase):
    PATHS = [((), "."), ((0,), "0"), ((10, 2, 0), "10/2/0"), (("a",), '"a"'), (("", "."), '""/"."'),
             ((0, "a b"), '0/"a b"'), (("/", 1, '"', "\\"), '"/"/1/"\\""/"\\\\"'), ((10 ** 19,), "1" + "0" * 19),
             (("a/b", "0"), '"a/b"/"0"')]

    def test_both_ways(self):
        for path, text in self.PATHS:
            with self.subTest(text):
                self.assertEqual(path_text(path), text)
                self.assertEqual(path_text(path=list(path)), text)
                self.assertEqual(read_path(text=text), path)
                self.assertIs(type(read_path(text)), tuple)

    def test_malformed(self):
        for text, place in (("", 0), (" ", 0), ("..", 1), (".0", 1), ("./0", 1), (". ", 1), ("/", 0), ("/0", 0), ("0/", 2),
                            ("0//1", 2), ("0/.", 2), ("00", 1), ("01", 1), ("0/01", 3), ("-1", 0), ("1-", 1), ("0 /1", 1),
                            ("0/ 1", 2), ("a", 0), ("0a", 1), ('"', 1), ('"a', 2), ('"a"b', 3), ('"a""b"', 3), ('"\\n"', 2),
                            ('"\\', 2), ('0/"', 3), ("1" * 21, 20), ("[0]", 0), ("0,1", 1), ("true", 0), ('"%"', 1),
                            ("0/\u0661", 2)):
            with self.subTest(text):
                self.assertEqual(outcome(read_path, text), bad(place))

    def test_paths_lead_to_parts(self):
        nest = read(write({"a b": [1, {"/": True}]}))
        self.assertIs(part(nest, read_path('"a b"/1/"/"')), True)

    def test_random_paths(self):
        dice = random.Random(62)
        for _ in range(500):
            path = tuple([dice.choice([0, 7, 123, "", "a", '"', "\\", "a/b", ".", " "]) for _ in range(dice.randrange(5))])
            self.assertEqual(read_path(path_text(path)), path)
            self.assertEqual(read_path("9/" + path_text(path + (1,))), (9,) + path + (1,))


if __name__ == "__main__":
    unittest.main()
