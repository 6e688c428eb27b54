"""The examples of the document, and its interface."""

import importlib
import inspect
import unittest

from making import array, built, doubling, integer
from nestfile.desk import Desk
from nestfile.edits import inserted, joined, patched, removed, replaced, swapped
from nestfile.errors import BadText, Large, NestError, NoFile, NoFit, NoPart, NoPlace, NoValue, Torn
from nestfile.files import entries, find, read, top
from nestfile.nesttexts import hex_text, path_text, read_hex, read_path, read_value, value_text
from nestfile.paths import part, steps
from nestfile.shelf import Shelf
from nestfile.values import Data, Wide, alike, check
from nestfile.webs import common, depth, different, parting, parts, path_at, place_of, times, where
from nestfile.writing import account, write

FIVE = built([integer(5)])
LIST = built([integer(7), array([0])])
PAIR = built([integer(7), array([0, 0])])

# What the interface lists: the module, the name, the parameters and the methods.
INTERFACE = [
    ("errors", "NoValue", ["path"], ["told"]), ("errors", "Large", ["what"], ["told"]),
    ("errors", "NoBytes", ["place"], ["told"]), ("errors", "Torn", ["word", "place"], ["told"]),
    ("errors", "NoPart", ["length"], ["told"]), ("errors", "NoPlace", ["place"], ["told"]),
    ("errors", "NoObject", ["number"], ["told"]), ("errors", "NoFit", ["length"], ["told"]),
    ("errors", "BadCount", ["what", "count"], ["told"]), ("errors", "NoName", ["name"], ["told"]),
    ("errors", "NoFile", ["name"], ["told"]), ("errors", "NoBack", None, ["told"]),
    ("errors", "BadText", ["place"], ["told"]), ("errors", "NestError", None, []),
    ("values", "Wide", ["units"], ["__eq__"]), ("values", "Data", ["octets"], ["__eq__"]),
    ("values", "Uid", ["number"], ["__eq__"]), ("values", "Real", ["octets"], ["__eq__"]),
    ("values", "Date", ["octets"], ["__eq__"]), ("values", "check", ["value"], []),
    ("values", "alike", ["one", "other"], []), ("files", "read", ["data"], []),
    ("files", "Nest", None, ["__len__", "__eq__", "__contains__"]),
    ("files", "Entry", ["kind", "place", "length", "references"], ["__eq__"]),
    ("files", "octets", ["nest"], []), ("files", "entries", ["nest"], []), ("files", "top", ["nest"], []),
    ("files", "unused", ["nest"], []), ("files", "gaps", ["nest"], []), ("files", "find", ["nest", "path"], []),
    ("webs", "parts", ["nest"], []), ("webs", "depth", ["nest"], []), ("webs", "different", ["nest"], []),
    ("webs", "times", ["nest", "value"], []), ("webs", "where", ["nest", "value"], []),
    ("webs", "common", ["nest", "other"], []), ("webs", "path_at", ["nest", "place"], []),
    ("webs", "place_of", ["nest", "path"], []), ("webs", "parting", ["nest", "other"], []),
    ("writing", "write", ["value"], []), ("writing", "shrink", ["nest"], []), ("writing", "account", ["nest"], []),
    ("writing", "Account", ["gaps", "unused", "twice", "wide", "references", "table"], ["__eq__"]),
    ("paths", "part", ["nest", "path", "most"], []), ("paths", "steps", ["nest", "path"], []),
    ("paths", "inner", ["nest", "path"], []),
    ("edits", "replaced", ["nest", "path", "value"], []), ("edits", "removed", ["nest", "path"], []),
    ("edits", "inserted", ["nest", "path", "value"], []), ("edits", "swapped", ["nest", "old", "new"], []),
    ("edits", "joined", ["nests"], []), ("edits", "patched", ["nest", "number", "value"], []),
    ("shelf", "Shelf", [], ["keep", "drop", "nest", "names", "replace", "remove", "insert", "claim", "claims", "many",
                            "back"]),
    ("nesttexts", "value_text", ["value"], []), ("nesttexts", "read_value", ["text"], []),
    ("nesttexts", "hex_text", ["data"], []), ("nesttexts", "read_hex", ["text"], []),
    ("nesttexts", "path_text", ["path"], []), ("nesttexts", "read_path", ["text"], []),
    ("desk", "Desk", [], ["tell"]),
]
METHODS = {
    "keep": ["name", "data"], "drop": ["name"], "nest": ["name"], "names": [], "replace": ["name", "path", "value"],
    "remove": ["name", "path"], "insert": ["name", "path", "value"], "claim": ["name", "other"], "claims": [], "many": [],
    "back": [], "tell": ["row"], "told": [],
}


class TestExamples(unittest.TestCase):
    def raises(self, error, fields, function, *arguments):
        with self.assertRaises(error) as caught:
            function(*arguments)
        self.assertEqual(vars(caught.exception), fields)
        self.assertIsInstance(caught.exception, NestError)

    def test_values(self):
        self.raises(NoValue, {"path": (1, "a")}, check, [1, {"a": (2,)}])
        self.raises(NoValue, {"path": ()}, Wide, [97])
        self.assertEqual((alike(True, 1), alike({"a": 1, "b": 2}, {"b": 2, "a": 1})), (False, True))

    def test_written_files(self):
        self.assertEqual(hex_text(write(5)),
                         "62706c6973743030100508000000000000010100000000000000010000000000000000000000000000000a")
        self.assertEqual(len(write([7, 7])), 47)
        self.assertEqual((write(5), write([7]), write([7, 7])), (FIVE, LIST, PAIR))

    def test_good_files(self):
        nest = read(PAIR)
        self.assertEqual((len(nest), top(nest)), (2, 1))
        self.assertEqual([(one.kind, one.place, one.length, one.references) for one in entries(read(LIST))],
                         [("integer", 8, 2, ()), ("list", 10, 2, (0,))])

    def test_torn_files(self):
        self.raises(Torn, {"word": "short", "place": 2}, read, [98, 112])
        self.raises(Torn, {"word": "header", "place": 0}, read, [99] + FIVE[1:])
        self.raises(Torn, {"word": "marker", "place": 8}, read, FIVE[:8] + [21] + FIVE[9:])
        self.raises(Torn, {"word": "ring", "place": 10}, read, LIST[:11] + [1] + LIST[12:])
        self.raises(Torn, {"word": "reference", "place": 11}, read, LIST[:11] + [2] + LIST[12:])

    def test_find(self):
        self.raises(NoPart, {"length": 0}, find, read(LIST), (1,))

    def test_account(self):
        nest = read(read_hex("62706c697374303011000508000000000000010100000000000000010000000000000000000000000000000b"))
        self.assertEqual((account(nest).wide, account(nest).table), (1, 0))

    def test_webs(self):
        nest = read(write(0))
        nest = read(joined([nest, nest]))
        nest = read(joined([nest, nest]))
        nest = read(joined([nest, nest]))
        self.assertEqual((parts(nest), depth(nest), different(nest)), (15, 3, 4))
        self.assertEqual(nest, read(doubling(4, integer(0))))
        nest = read(write([[5], {"a": 5}]))
        self.assertEqual((times(nest, 5), where(nest, 5), where(nest, True)), (2, (0, 0), None))
        self.assertEqual((path_at(nest, 4), place_of(nest, (1,))), ((1, "a"), 3))
        self.assertEqual(parting(read(write([1, {"a": 2}])), read(write([1, {"a": 3}]))), (1, "a"))
        self.assertEqual(common(read(write([1, 2])), read(write([2, 3]))), 1)
        self.raises(NoPlace, {"place": 5}, path_at, nest, 5)

    def test_paths(self):
        nest = read(write({"b": 1, "a": [True]}))
        self.assertEqual((part(nest, ("a",)), steps(nest, ())), ([True], ["a", "b"]))
        self.raises(Large, {"what": "depth"}, part, read(doubling(102)), ())

    def test_edits(self):
        nest = read(write([7, 7]))
        self.assertEqual((part(read(replaced(nest, (0,), 8)), ()), part(read(inserted(nest, (2,), 9)), ())),
                         ([8, 7], [7, 7, 9]))
        self.assertEqual(part(read(swapped(read(write([7, [7]])), 7, "x")), ()), ["x", ["x"]])
        self.raises(NoPart, {"length": 0}, removed, read(write([7])), ())
        self.assertEqual(part(read(patched(read(write([7, 7])), 0, 9)), ()), [9, 9])
        self.raises(NoFit, {"length": 3}, patched, read(write([7, 7])), 0, 300)

    def test_shelf(self):
        shelf = Shelf()
        shelf.keep("a", write([1, 2]))
        shelf.keep("b", write([1]))
        shelf.remove("a", (1,))
        self.assertEqual((shelf.claim("a", "b"), shelf.claims(), shelf.many()), (True, [("a", "b", True)], 4))
        self.raises(NoFile, {"name": "a"}, Shelf().nest, "a")

    def test_texts(self):
        self.assertEqual(value_text([None, {"a": -5}, Data([255])]), '[null,{"a":-5},dff]')
        self.raises(BadText, {"place": 4}, read_value, "[1,02]")
        self.assertEqual((path_text((0, "a b")), read_path(".")), ('0/"a b"', ()))

    def test_desk(self):
        desk = Desk()
        desk.tell("write a [7,7]")
        desk.tell("replace a 0 8")
        self.assertEqual(desk.tell("part a ."), ["[8,7]"])
        self.assertEqual(Desk().tell("drop a"), ["refused nofile"])


class TestInterface(unittest.TestCase):
    def test_names_and_parameters(self):
        for module, name, parameters, methods in INTERFACE:
            with self.subTest(name):
                thing = getattr(importlib.import_module("nestfile." + module), name)
                self.assertEqual(thing.__module__, "nestfile." + module)
                if parameters is not None:
                    self.assertEqual(list(inspect.signature(thing).parameters), parameters)
                for method in methods:
                    self.assertIn(method, vars(thing))
                    if method in METHODS:
                        names = list(inspect.signature(vars(thing)[method]).parameters)
                        self.assertEqual(names, ["self"] + METHODS[method])

    def test_what_is_named_and_what_has_a_default(self):
        most = inspect.signature(part).parameters["most"]
        self.assertEqual((most.kind, most.default), (inspect.Parameter.KEYWORD_ONLY, 20_000))
        for module, name, parameters, _ in INTERFACE:
            if parameters is not None:
                thing = getattr(importlib.import_module("nestfile." + module), name)
                for one in list(inspect.signature(thing).parameters.values())[:2]:
                    self.assertEqual((one.kind, one.default), (inspect.Parameter.POSITIONAL_OR_KEYWORD, one.empty))


if __name__ == "__main__":
    unittest.main()
