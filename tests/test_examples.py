"""The examples of the document, with the files that they write put together by hand."""

import importlib
import inspect
import unittest

from making import array, built, integer
from nestfile.errors import NestError, NoPart, NoValue, Torn
from nestfile.files import entries, find, read, top
from nestfile.values import Wide, alike, check

FIVE = built([integer(5)])
LIST = built([integer(7), array([0])])
PAIR = built([integer(7), array([0, 0])])

# What the interface lists: the module, the name, the parameters and the methods.
INTERFACE = [
    ("errors", "NoValue", ["path"], ["told"]), ("errors", "Large", ["what"], ["told"]),
    ("errors", "NoBytes", ["place"], ["told"]), ("errors", "Torn", ["word", "place"], ["told"]),
    ("errors", "NoPart", ["length"], ["told"]), ("errors", "NoPlace", ["place"], ["told"]),
    ("errors", "NoObject", ["number"], ["told"]), ("errors", "NoFit", ["length"], ["told"]),
    ("errors", "BadCount", ["what", "count"], ["told"]), ("errors", "NoName", ["name"], ["told"]),
    ("errors", "NoFile", ["name"], ["told"]), ("errors", "NoBack", None, ["told"]),
    ("errors", "BadText", ["place"], ["told"]), ("errors", "NestError", None, []),
    ("values", "Wide", ["units"], ["__eq__"]), ("values", "Data", ["octets"], ["__eq__"]),
    ("values", "Uid", ["number"], ["__eq__"]), ("values", "Real", ["octets"], ["__eq__"]),
    ("values", "Date", ["octets"], ["__eq__"]), ("values", "check", ["value"], []),
    ("values", "alike", ["one", "other"], []), ("files", "read", ["data"], []),
    ("files", "Nest", None, ["__len__", "__eq__", "__contains__"]),
    ("files", "Entry", ["kind", "place", "length", "references"], ["__eq__"]),
    ("files", "octets", ["nest"], []), ("files", "entries", ["nest"], []), ("files", "top", ["nest"], []),
    ("files", "unused", ["nest"], []), ("files", "gaps", ["nest"], []), ("files", "find", ["nest", "path"], []),
]


class TestExamples(unittest.TestCase):
    def raises(self, error, fields, function, *arguments):
        with self.assertRaises(error) as caught:
            function(*arguments)
        self.assertEqual(vars(caught.exception), fields)
        self.assertIsInstance(caught.exception, NestError)

    def test_values(self):
        self.raises(NoValue, {"path": (1, "a")}, check, [1, {"a": (2,)}])
        self.raises(NoValue, {"path": ()}, Wide, [97])
        self.assertEqual((alike(True, 1), alike({"a": 1, "b": 2}, {"b": 2, "a": 1})), (False, True))

    def test_good_files(self):
        nest = read(PAIR)
        self.assertEqual((len(nest), top(nest)), (2, 1))
        self.assertEqual([(one.kind, one.place, one.length, one.references) for one in entries(read(LIST))],
                         [("integer", 8, 2, ()), ("list", 10, 2, (0,))])

    def test_torn_files(self):
        self.raises(Torn, {"word": "short", "place": 2}, read, [98, 112])
        self.raises(Torn, {"word": "header", "place": 0}, read, [99] + FIVE[1:])
        self.raises(Torn, {"word": "marker", "place": 8}, read, FIVE[:8] + [21] + FIVE[9:])
        self.raises(Torn, {"word": "ring", "place": 10}, read, LIST[:11] + [1] + LIST[12:])
        self.raises(Torn, {"word": "reference", "place": 11}, read, LIST[:11] + [2] + LIST[12:])

    def test_find(self):
        self.raises(NoPart, {"length": 0}, find, read(LIST), (1,))


class TestInterface(unittest.TestCase):
    def test_names_and_parameters(self):
        for module, name, parameters, methods in INTERFACE:
            with self.subTest(name):
                thing = getattr(importlib.import_module("nestfile." + module), name)
                self.assertEqual(thing.__module__, "nestfile." + module)
                if parameters is not None:
                    self.assertEqual(list(inspect.signature(thing).parameters), parameters)
                for method in methods:
                    self.assertIn(method, vars(thing))


if __name__ == "__main__":
    unittest.main()
