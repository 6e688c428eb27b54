import random
import unittest

import slow
from making import array, built, integer
from nestfile.errors import BadCount, Large, NestError, NoBack, NoBytes, NoFile, NoName, NoPart, NoValue, Torn
from nestfile.files import Nest, octets, read
from nestfile.paths import part
from nestfile.shelf import Shelf
from nestfile.webs import parts
from nestfile.writing import write
from test_fuzz_edits import cut, more, outcome
from test_fuzz_values import put, random_value

# [7, 7] in more bytes than needed.
LONG = built([integer(7), integer(7, 1), array([0, 1])])
NAMES = ["a", "b", "c", "d", "e", "f", "g", "h"]


def state(shelf):
    """All that can be asked of a shelf."""
    return [(name, octets(shelf.nest(name))) for name in shelf.names()], shelf.claims(), shelf.many()


class TestShelf(unittest.TestCase):
    def setUp(self):
        self.shelf = Shelf()
        self.shelf.keep("a", write([7, 7]))
        self.shelf.keep("b", write([7]))

    def refused(self, error, fields, function, *arguments):
        """A call that raises an error and leaves all as it was."""
        before = state(self.shelf)
        with self.assertRaises(error) as caught:
            function(*arguments)
        self.assertEqual(vars(caught.exception), fields)
        self.assertEqual(state(self.shelf), before)

    def changes(self, function, *arguments):
        """A call that changes the state, and that `back` undoes."""
        before = state(self.shelf)
        self.assertIsNone(function(*arguments))
        after = state(self.shelf)
        self.assertEqual(after[2], before[2] + 1)
        self.assertIsNone(self.shelf.back())
        self.assertEqual(state(self.shelf), before)
        self.assertIsNone(function(*arguments))
        self.assertEqual(state(self.shelf), after)

    def stays(self, function, *arguments):
        before = state(self.shelf)
        function(*arguments)
        self.assertEqual(state(self.shelf), before)

    def value(self, name):
        return part(self.shelf.nest(name), ())


class TestKeeping(TestShelf):
    def test_an_empty_shelf(self):
        shelf = Shelf()
        self.assertEqual((shelf.names(), shelf.claims(), shelf.many()), ([], [], 0))
        for error, call in ((NoFile, lambda: shelf.nest("a")), (NoFile, lambda: shelf.drop("a")), (NoBack, shelf.back)):
            self.assertRaises(error, call)

    def test_keep_and_nest(self):
        self.assertIs(type(self.shelf.nest("a")), Nest)
        self.assertEqual(self.shelf.nest("a"), read(LONG))
        self.assertEqual(octets(self.shelf.nest(name="b")), write([7]))
        self.changes(self.shelf.keep, "c", LONG)
        self.assertEqual(octets(self.shelf.nest("c")), LONG)
        self.assertEqual(self.shelf.names(), ["a", "b", "c"])
        self.shelf.keep(name="b", data=tuple(LONG))
        self.assertEqual(octets(self.shelf.nest("b")), LONG)

    def test_names(self):
        for name in ("z", "ab", "abcdefgh", "a1234567", "z9", "x0y"):
            self.changes(self.shelf.keep, name, LONG)
        self.assertEqual(self.shelf.names(), sorted(["a", "b", "z", "ab", "abcdefgh", "a1234567", "z9", "x0y"]))
        for name in ("", "abcdefghi", "a12345678", "A", "aB", "1", "9a", "1abcdefg", "a b", " a", "a ", "a_", "_", "a-b", "a.",
                     "\u00e9", "a\u00e9", "\u00df", "a\u0661", "a\u00b2", "\u0430", "a\n", "%", "a%", "abcdefg\u00e9",
                     "ABCDEFGHI"):
            self.refused(NoName, {"name": name}, self.shelf.keep, name, LONG)
            self.refused(NoFile, {"name": name}, self.shelf.nest, name)
            self.refused(NoFile, {"name": name}, self.shelf.drop, name)

    def test_eight_names(self):
        for name in NAMES[2:]:
            self.shelf.keep(name, LONG)
        self.assertEqual(self.shelf.names(), NAMES)
        self.refused(BadCount, {"what": "files", "count": 9}, self.shelf.keep, "i", LONG)
        self.refused(BadCount, {"what": "files", "count": 9}, self.shelf.keep, "i", [1])
        self.refused(NoName, {"name": "I"}, self.shelf.keep, "I", [1])
        self.changes(self.shelf.keep, "h", write(5))
        self.stays(self.shelf.keep, "a", write([7, 7]))
        self.changes(self.shelf.drop, "c")
        self.changes(self.shelf.keep, "i", LONG)
        self.assertEqual(self.shelf.names(), ["a", "b", "d", "e", "f", "g", "h", "i"])

    def test_the_order_of_the_errors(self):
        self.refused(NoName, {"name": "A"}, self.shelf.keep, "A", [300])
        self.refused(NoBytes, {"place": 0}, self.shelf.keep, "a", [300])
        self.refused(NoBytes, {"place": 8}, self.shelf.keep, "a", write([7, 7])[:8] + [True] + write([7, 7])[9:])
        self.refused(Torn, {"word": "short", "place": 1}, self.shelf.keep, "c", [98])
        self.refused(Torn, {"word": "header", "place": 0}, self.shelf.keep, "a", [0] + LONG[1:])

    def test_the_same_bytes_change_nothing(self):
        self.stays(self.shelf.keep, "a", write([7, 7]))
        self.stays(self.shelf.keep, "a", tuple(write([7, 7])))
        self.changes(self.shelf.keep, "a", LONG)
        self.stays(self.shelf.keep, "a", LONG)
        self.changes(self.shelf.keep, "a", write([7, 7]))

    def test_drop(self):
        self.changes(self.shelf.drop, "a")
        self.assertEqual(self.shelf.names(), ["b"])
        self.refused(NoFile, {"name": "a"}, self.shelf.drop, "a")
        self.refused(NoFile, {"name": "a"}, self.shelf.nest, "a")
        self.shelf.drop(name="b")
        self.assertEqual(self.shelf.names(), [])

    def test_lists_belong_to_the_caller(self):
        data = write([7])
        self.shelf.keep("c", data)
        data[8] = 0
        value = [[1], {"a": [2]}]
        self.shelf.replace("c", (0,), value)
        value[0].append(5)
        value[1]["a"].append(6)
        self.assertEqual(self.value("c"), [[[1], {"a": [2]}]])
        self.shelf.claim("a", "b")
        self.shelf.names().append("x")
        self.shelf.claims().append("x")
        octets(self.shelf.nest("c")).append(0)
        self.value("c").append(0)
        self.assertEqual((self.shelf.names(), self.shelf.claims()), (["a", "b", "c"], [("a", "b", False)]))
        self.assertEqual(self.value("c"), [[[1], {"a": [2]}]])

    def test_two_shelves(self):
        other = Shelf()
        other.keep("x", LONG)
        other.claim("x", "x")
        self.assertEqual((self.shelf.names(), self.shelf.claims(), self.shelf.many()), (["a", "b"], [], 2))
        self.assertEqual((other.names(), other.many()), (["x"], 2))
        other.keep("a", octets(self.shelf.nest("a")))
        other.replace("a", (0,), 9)
        self.assertEqual(self.value("a"), [7, 7])


class TestEditing(TestShelf):
    def test_edits(self):
        self.changes(self.shelf.replace, "a", (0,), [8])
        self.assertEqual(self.value("a"), [[8], 7])
        self.changes(self.shelf.insert, "a", [0, 1], {"x": None})
        self.assertEqual(self.value("a"), [[8, {"x": None}], 7])
        self.changes(self.shelf.insert, "a", (0, 1, "y"), 5)
        self.changes(self.shelf.remove, "a", (0, 0))
        self.assertEqual(self.value("a"), [[{"x": None, "y": 5}], 7])
        self.assertEqual(octets(self.shelf.nest("a")), write([[{"x": None, "y": 5}], 7]))
        self.assertEqual(self.value("b"), [7])
        self.shelf.replace(name="a", path=(), value=1)
        self.shelf.replace("a", (), [])
        self.shelf.insert(name="a", path=(0,), value=3)
        self.shelf.remove(name="a", path=(0,))
        self.assertEqual(self.value("a"), [])

    def test_an_edit_that_leaves_the_same_bytes(self):
        self.stays(self.shelf.replace, "a", (0,), 7)
        self.stays(self.shelf.replace, "a", (), [7, 7])
        self.shelf.keep("a", LONG)
        self.shelf.claim("a", "b")
        # The same value in other bytes is a change, but no other value.
        self.changes(self.shelf.replace, "a", (1,), 7)
        self.assertEqual(self.shelf.claims(), [("a", "b", False)])
        self.assertEqual(octets(self.shelf.nest("a")), write([7, 7]))
        self.stays(self.shelf.replace, "a", (1,), 7)

    def test_refused_edits(self):
        self.shelf.claim("a", "b")
        for call in (self.shelf.replace, self.shelf.insert):
            self.refused(NoFile, {"name": "x"}, call, "x", (9, 9), (1,))
            self.refused(NoPart, {"length": 0}, call, "a", (9, 9), (1,))
            self.refused(NoValue, {"path": ()}, call, "a", (0,), (1,))
            self.refused(Large, {"what": "parts"}, call, "a", (0,), [0] * 20_000)
            self.refused(Large, {"what": "objects"}, call, "a", (0,), list(range(10_000)))
        self.refused(NoPart, {"length": 0}, self.shelf.insert, "a", (), 0)
        self.refused(NoPart, {"length": 0}, self.shelf.insert, "a", (3,), 0)
        self.refused(NoFile, {"name": ""}, self.shelf.remove, "", ())
        self.refused(NoPart, {"length": 0}, self.shelf.remove, "a", ())
        self.refused(NoPart, {"length": 1}, self.shelf.remove, "a", (1, 0))

    def test_large_nests(self):
        self.shelf.keep("a", write([[], []]))
        for many in range(1, 300):
            self.shelf.replace("a", (0,) * many, [[], []])
        self.assertEqual(parts(self.shelf.nest("a")), 3 + 2 * 299)
        for many in range(299, 0, -1):
            self.assertEqual(parts(self.shelf.nest("a")), 3 + 2 * many)
            self.shelf.back()
        self.assertEqual(self.value("a"), [[], []])


class TestClaims(TestShelf):
    def setUp(self):
        super().setUp()
        self.shelf.keep("c", LONG)

    def claims(self, *pairs):
        self.assertEqual(self.shelf.claims(), [(one, other, result) for one, other, result in pairs])

    def test_claims(self):
        self.assertIs(self.shelf.claim("c", "a"), True)
        self.claims(("a", "c", True))
        self.assertIs(self.shelf.claim(name="b", other="a"), False)
        self.claims(("a", "b", False), ("a", "c", True))
        self.assertIs(self.shelf.claim("b", "b"), True)
        self.assertIs(self.shelf.claim("c", "b"), False)
        self.claims(("a", "b", False), ("a", "c", True), ("b", "b", True), ("b", "c", False))
        self.assertTrue(all(type(row) is tuple for row in self.shelf.claims()))
        self.assertEqual(self.shelf.many(), 7)

    def test_each_claim_is_stored_once(self):
        for one, other in (("a", "b"), ("c", "a"), ("a", "a")):
            before = self.shelf.many()
            result = self.shelf.claim(one, other)
            self.assertEqual(self.shelf.many(), before + 1)
            for pair in ((one, other), (other, one)):
                self.assertIs(self.shelf.claim(*pair), result)
                self.assertEqual(self.shelf.many(), before + 1)
        self.claims(("a", "a", True), ("a", "b", False), ("a", "c", True))
        self.shelf.back()
        self.claims(("a", "b", False), ("a", "c", True))

    def test_names_that_are_not_in_use(self):
        self.refused(NoFile, {"name": "x"}, self.shelf.claim, "x", "y")
        self.refused(NoFile, {"name": "y"}, self.shelf.claim, "a", "y")
        self.refused(NoFile, {"name": "x"}, self.shelf.claim, "x", "a")
        self.refused(NoFile, {"name": ""}, self.shelf.claim, "", "")

    def every_claim(self):
        for one in "abc":
            for other in "abc":
                self.shelf.claim(one, other)
        self.assertEqual(len(self.shelf.claims()), 6)

    def test_which_claims_are_removed(self):
        rest = [("a", "a", True), ("a", "c", True), ("c", "c", True)]
        for call in ((self.shelf.drop, "b"), (self.shelf.keep, "b", write([7, 7])), (self.shelf.replace, "b", (0,), 8),
                     (self.shelf.remove, "b", (0,)), (self.shelf.insert, "b", (1,), 7), (self.shelf.replace, "b", (), [])):
            self.every_claim()
            self.changes(*call)
            self.assertEqual(self.shelf.claims(), rest)
            self.shelf.back()
            self.assertEqual(len(self.shelf.claims()), 6)

    def test_which_claims_stay(self):
        self.every_claim()
        before = self.shelf.claims()
        for call in ((self.shelf.keep, "a", LONG), (self.shelf.keep, "c", write([7, 7])), (self.shelf.keep, "a", write([7, 7])),
                     (self.shelf.keep, "d", write(0)), (self.shelf.drop, "d"), (self.shelf.keep, "c", LONG),
                     (self.shelf.replace, "c", (0,), 7)):
            self.changes(*call)
            self.assertEqual(self.shelf.claims(), before)

    def test_a_value_that_comes_back_has_no_claims(self):
        self.shelf.claim("a", "c")
        self.shelf.replace("a", (0,), 8)
        self.shelf.replace("a", (0,), 7)
        self.claims()
        self.assertIs(self.shelf.claim("a", "c"), True)
        self.shelf.drop("c")
        self.shelf.keep("c", LONG)
        self.claims()

    def test_true_is_not_one(self):
        self.shelf.keep("a", write([1]))
        self.shelf.keep("b", write([True]))
        self.assertIs(self.shelf.claim("a", "b"), False)
        self.shelf.replace("a", (0,), True)
        self.claims()
        self.assertIs(self.shelf.claim("a", "b"), True)


class TestBack(TestShelf):
    def test_several_times_in_a_row(self):
        shelf = Shelf()
        calls = [(shelf.keep, "a", write([7, 7])), (shelf.keep, "b", LONG), (shelf.claim, "b", "a"), (shelf.claim, "a", "a"),
                 (shelf.keep, "a", LONG), (shelf.replace, "a", (0,), 8), (shelf.claim, "a", "b"), (shelf.insert, "a", (0,), 9),
                 (shelf.remove, "b", (1,)), (shelf.claim, "b", "b"), (shelf.drop, "b"), (shelf.keep, "b", write(1)),
                 (shelf.claim, "a", "b"), (shelf.drop, "a"), (shelf.drop, "b")]
        states = []
        for call in calls:
            states.append(state(shelf))
            call[0](*call[1:])
        self.assertEqual(shelf.many(), len(calls))
        for expected in reversed(states):
            self.assertIsNone(shelf.back())
            self.assertEqual(state(shelf), expected)
        self.assertEqual((shelf.names(), shelf.many()), ([], 0))
        with self.assertRaises(NoBack) as caught:
            shelf.back()
        self.assertEqual((vars(caught.exception), caught.exception.told()), ({}, "refused noback"))
        self.assertEqual(state(shelf), ([], [], 0))

    def test_what_is_done_after_back(self):
        self.shelf.replace("a", (0,), 8)
        self.shelf.back()
        self.shelf.replace("a", (1,), 9)
        self.assertEqual((self.value("a"), self.shelf.many()), ([7, 9], 3))
        self.shelf.back()
        self.assertEqual((self.value("a"), self.shelf.many()), ([7, 7], 2))
        self.shelf.claim("a", "b")
        self.shelf.back()
        self.assertEqual(self.shelf.claims(), [])
        self.assertIs(self.shelf.claim("b", "a"), False)
        self.assertEqual(self.shelf.many(), 3)

    def test_calls_that_only_ask(self):
        for call in (self.shelf.names, self.shelf.claims, self.shelf.many, lambda: self.shelf.nest("a")):
            self.stays(call)


class Model:
    """A shelf over values that are written out; a state is (values, files, claims)."""

    def __init__(self):
        self.states = [({}, {}, {})]

    def store(self, name, value, file):
        values, files, claims = self.states[-1]
        if files.get(name) == file:
            return
        if name in values and slow.sign(values[name]) != slow.sign(value):
            claims = {pair: result for pair, result in claims.items() if name not in pair}
        self.states.append(({**values, name: value}, {**files, name: file}, claims))

    def drop(self, name):
        values, files, claims = [dict(one) for one in self.states[-1]]
        del values[name], files[name]
        self.states.append((values, files, {pair: result for pair, result in claims.items() if name not in pair}))

    def claim(self, name, other):
        values, files, claims = self.states[-1]
        pair = tuple(sorted([name, other]))
        if pair not in claims:
            same = slow.sign(values[name]) == slow.sign(values[other])
            self.states.append((values, files, {**claims, pair: same}))


class TestRandomly(unittest.TestCase):
    def test_random_calls(self):
        dice = random.Random(71)
        for _ in range(60):
            shelf, model = Shelf(), Model()
            for _ in range(60):
                self.call(dice, shelf, model)
                values, files, claims = model.states[-1]
                self.assertEqual(shelf.names(), sorted(files))
                self.assertEqual([octets(shelf.nest(name)) for name in sorted(files)], [files[name] for name in sorted(files)])
                self.assertEqual(shelf.claims(), sorted((*pair, result) for pair, result in claims.items()))
                self.assertEqual(shelf.many(), len(model.states) - 1)

    def call(self, dice, shelf, model):
        values = model.states[-1][0]
        name, other = dice.choice(["a", "b", "c"]), dice.choice(["a", "b", "c"])
        word = dice.choice(["keep", "keep", "drop", "replace", "remove", "insert", "claim", "claim", "claim", "back"])
        if word == "back":
            if len(model.states) > 1:
                model.states.pop()
                shelf.back()
            else:
                self.assertRaises(NoBack, shelf.back)
        elif word == "keep":
            value = dice.choice([[7, 7], [7], {"a": [1]}, random_value(dice, 2)])
            file = dice.choice([write(value), LONG]) if value == [7, 7] else write(value)
            shelf.keep(name, file)
            model.store(name, value, file)
        elif name not in values or (word == "claim" and other not in values):
            arguments = {"drop": (name,), "remove": (name, ()), "claim": (name, other)}.get(word, (name, (), ()))
            self.assertEqual(outcome(getattr(shelf, word), *arguments)[0], NoFile)
        elif word == "drop":
            shelf.drop(name)
            model.drop(name)
        elif word == "claim":
            shelf.claim(name, other)
            model.claim(name, other)
        else:
            self.edit(dice, shelf, model, word, name)

    def edit(self, dice, shelf, model, word, name):
        value = model.states[-1][0][name]
        path, held = dice.choice(list(slow.walk(value)))
        new = dice.choice([held, random_value(dice, 1)])
        try:
            if word == "replace":
                shelf.replace(name, path, new)
                value = put(value, path, new)
            elif word == "remove":
                shelf.remove(name, path)
                value = cut(value, path)
            else:
                path = path + (dice.choice([0, "a", "b"]),)
                shelf.insert(name, path, new)
                value = more(value, path, new)
            model.store(name, value, slow.shortest(value))
        except NestError as error:
            self.assertIs(type(error), NoPart)


if __name__ == "__main__":
    unittest.main()
