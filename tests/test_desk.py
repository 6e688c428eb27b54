import unittest

from making import array, built, chain, doubling, integer
from nestfile.desk import Desk
from nestfile.files import read
from nestfile.nesttexts import hex_text, path_text, value_text
from nestfile.values import Data, Wide
from nestfile.webs import parting
from nestfile.writing import write

LONG = hex_text(built([integer(7), integer(7, 1), array([0, 1])]))
SHORT = hex_text(write([7, 7]))
DONE = ["done"]
COMMANDS = ["keep", "write", "drop", "replace", "remove", "insert", "back", "hex", "names", "part", "find", "parts", "depth",
            "different", "same", "claim"]


def state(desk):
    names = desk.tell("names")
    return [(name, desk.tell("hex " + name)) for name in names]


class TestDesk(unittest.TestCase):
    def setUp(self):
        self.desk = Desk()
        self.told("write a [7,7]", "done")
        self.told("write b {\"x\":[7,7],\"k k\":null}", "done")

    def told(self, row, *answer):
        found = self.desk.tell(row)
        self.assertEqual(found, list(answer), row)
        self.assertIs(type(found), list)
        self.assertTrue(all(type(one) is str for one in found))
        # Each answer belongs to the caller.
        found.append("x")

    def refused(self, word, *rows):
        for row in rows:
            before = state(self.desk)
            self.told(row, "refused " + word)
            self.assertEqual(state(self.desk), before, row)


class TestCommands(TestDesk):
    def test_keep_and_hex(self):
        self.told("keep c " + LONG, "done")
        self.told("hex c", LONG)
        self.told("hex a", SHORT)
        self.told("keep a " + LONG, "done")
        self.told("hex a", LONG)

    def test_write(self):
        self.told('write c {"b":1,"a":"x  y \\" \\\\"}', "done")
        self.told("part c .", '{"a":"x  y \\" \\\\","b":1}')
        self.told("hex c", hex_text(write({"a": 'x  y " \\', "b": 1})))
        for value in (None, True, False, -5, "", " ", Wide([233]), Data([1]), [], {}):
            self.told("write c " + value_text(value), "done")
            self.told("part c .", value_text(value))

    def test_drop_names_and_back(self):
        self.told("names", "a", "b")
        self.told("drop a", "done")
        self.told("names", "b")
        self.told("back", "done")
        self.told("names", "a", "b")
        self.told("back", "done")
        self.told("back", "done")
        self.told("names")
        self.refused("noback", "back")

    def test_edits(self):
        self.told("replace a 0 8", "done")
        self.told("part a .", "[8,7]")
        self.told('insert a 2 "a b  c"', "done")
        self.told("part a .", '[8,7,"a b  c"]')
        self.told("remove a 1", "done")
        self.told("part a .", '[8,"a b  c"]')
        self.told('insert b "y" [1]', "done")
        self.told('replace b "x"/1 {"z":null}', "done")
        self.told("part b .", '{"k k":null,"x":[7,{"z":null}],"y":[1]}')
        self.told("replace b . [ ]", "refused badtext")
        self.told("replace b . []", "done")
        self.told("hex b", hex_text(write([])))

    def test_questions(self):
        self.told('part b "x"', "[7,7]")
        self.told('part b "x"/0', "7")
        self.told("find a .", "1")
        self.told("find a 1", "0")
        self.told("keep c " + LONG, "done")
        self.told("find c 1", "1")
        for word, numbers in (("parts", (3, 5, 3)), ("depth", (1, 2, 1)), ("different", (2, 6, 2))):
            for name, number in zip("abc", numbers):
                self.told(f"{word} {name}", str(number))

    def test_large_numbers(self):
        self.told("keep c " + hex_text(doubling(3_000)), "done")
        self.told("parts c", str(2 ** 3_000 - 1))
        self.told("depth c", "2999")
        self.told("different c", "3000")
        self.refused("large", "part c .", "part c 0/0/0")
        self.told("part c " + "/".join(["1"] * 2_997), "[[null,null],[null,null]]")

    def test_same(self):
        self.told("keep c " + LONG, "done")
        self.told("same a c", "same")
        self.told("same c a", "same")
        self.told("same a a", "same")
        self.told("same a b", "differ .")
        self.told("write d [7,8]", "done")
        self.told("same a d", "differ 1")
        self.told('write e {"x":[7,8],"k k":null}', "done")
        self.told("same b e", 'differ "x"/1')
        self.told('write f {"x":[7,7],"k k":0}', "done")
        self.told("same b f", 'differ "k k"')
        self.assertEqual(path_text(parting(read(write([7, 7])), read(write([7, 8])))), "1")

    def test_claim(self):
        self.told("keep c " + LONG, "done")
        self.told("claim a c", "true")
        self.told("claim b a", "false")
        self.told("claim a a", "true")
        self.assertEqual(self.desk.shelf.claims(), [("a", "a", True), ("a", "b", False), ("a", "c", True)])
        self.told("back", "done")
        self.assertEqual(self.desk.shelf.claims(), [("a", "b", False), ("a", "c", True)])

    def test_two_desks(self):
        other = Desk()
        self.assertEqual(other.tell("names"), [])
        self.assertEqual(other.tell(row="write z 1"), DONE)
        self.told("names", "a", "b")
        self.refused("nofile", "part z .")
        self.told("drop a", "done")
        self.assertEqual(other.tell("back"), DONE)
        self.assertEqual(other.tell("back"), ["refused noback"])
        self.assertIsNot(self.desk.tell("names"), self.desk.tell("names"))


class TestBadTexts(TestDesk):
    def test_unknown_commands(self):
        self.refused("badtext", "", " ", "x", "look a", "Names", "NAMES", "name", "namess", "keep", "write", "shrink a", "done",
                     "times a 7", "swapped a 7 8", "WRITE c 5", "Drop a", "back\n", "names\t", "claims", "many", "nest a")

    def test_too_few_and_too_many_words(self):
        full = {"keep": "keep c " + LONG, "write": "write c 5", "drop": "drop a", "replace": "replace a 0 5",
                "remove": "remove a 0", "insert": "insert a 0 5", "back": "back", "hex": "hex a", "names": "names",
                "part": "part a .", "find": "find a .", "parts": "parts a", "depth": "depth a", "different": "different a",
                "same": "same a b", "claim": "claim a b"}
        self.assertEqual(list(full), COMMANDS)
        for row in full.values():
            words = row.split(" ")
            for many in range(1, len(words)):
                self.refused("badtext", " ".join(words[:many]), " ".join(words[:many]) + " ")
            self.refused("badtext", row + " x", row + " ", row + "  ", " " + row, row + " 0", row + " .")
            for at in range(1, len(words)):
                self.refused("badtext", " ".join(words[:at]) + "  " + " ".join(words[at:]))
            if len(words) > 1:
                self.refused("badtext", row.upper(), row.replace(" ", "\t"), row.title())

    def test_words_that_are_malformed(self):
        self.refused("badtext", "keep c 0", "keep c 0g", "keep c " + LONG.upper(), "keep c " + LONG + "0", "keep c .",
                     "write c", "write c x", "write c [1,]", "write c [1, 2]", "write c 01", 'write c "', 'write c {"a":1,"a":2}',
                     "write c 5 ", "write c  5", "replace a x 5", "replace a 00 5", "replace a 0/ 5", "replace a 0 05",
                     "replace a /0 5", "remove a a", "remove a -1", "remove a 0/", 'remove b "k k"', 'part b "k k"',
                     'replace b "k k" 5', "insert a 0 {", "part a x", "part a /", "find a ..", "find a 0.",
                     'insert a 0 "\\n"', "write c w", "write c r00")

    def test_the_whole_command_is_parsed_first(self):
        wrong = "9" * 20
        # The name is not looked at before all words are parsed.
        self.refused("badtext", "keep A 0", "keep A0 zz", "write A x", "replace x y 5", "replace x 0 y", "remove x y",
                     "insert x y 5", "insert x 0 y", "part x y", "find x y", "write  5")
        self.refused("novalue", "write A " + wrong, "replace x 0 " + wrong, "insert x . u" + wrong, "write c w0061",
                     "write c [0," + wrong + "]", "replace a 9/9 [w0061]")
        # The path comes before the value.
        self.refused("badtext", "replace a y " + wrong, "insert a 0/ " + wrong, "replace a 0 [" + wrong + ",]",
                     "replace a 0 " + wrong + " ")
        self.refused("large", "write A " + "[" * 102 + "]" * 102, "replace x 5 " + "[" * 102 + "]" * 102)


class TestRefusals(TestDesk):
    def test_keep(self):
        self.refused("noname", "keep A " + LONG, "keep abcdefghi " + LONG, "keep 1 " + LONG, "keep A 00", "write A 5",
                     'write "a" 5', "write \u00e9 5", "write 0 5", "keep . " + LONG)
        self.refused("torn", "keep c 00", "keep a 00", "keep c " + LONG[:-2], "keep c 63" + LONG[2:])
        for name in "cdefgh":
            self.told(f"write {name} 0", "done")
        self.refused("badcount", "write i 5", "keep i " + LONG, "keep i 00")
        self.refused("noname", "write I 5", "keep I 00")
        self.told("write h 5", "done")

    def test_names_that_are_not_in_use(self):
        self.refused("nofile", "drop x", "replace x 9 5", "remove x .", "insert x . 5", "hex x", "part x 9", "find x 9",
                     "parts x", "depth X", "different 0", "same x a", "same a x", "same x y", "claim x a", "claim a x",
                     "claim x x", 'drop "', "drop .")

    def test_paths_that_lead_nowhere(self):
        self.refused("nopart", "replace a 2 5", "remove a 2", "remove a .", "insert a 3 5", "insert a . 5", 'insert b "x" 5',
                     "insert b 0 5", 'insert a "x" 5', 'replace b "x"/2 5', "part a 2", "find a 2", 'find b "y"',
                     "part a 0/0", "replace a 99999999999999999999 5")
        # No key with a percent sign can be written down at all.
        self.refused("badtext", 'insert b "%" 5')

    def test_large_values(self):
        self.told("keep c " + hex_text(chain(102)), "done")
        self.refused("large", "part c .", "part c .")
        self.told("part c 0/0", "[" * 100 + "]" * 100)
        self.told("keep c " + hex_text(built([array([]), array([0] * 1_000), array([1] * 20)])), "done")
        self.refused("large", "part c .")
        self.told("part c 3", "[" + ",".join(["[]"] * 1_000) + "]")

    def test_refused_commands_cannot_be_undone(self):
        self.told("replace a 0 8", "done")
        self.refused("nopart", "replace a 5 8")
        self.refused("badtext", "names ")
        self.refused("nofile", "drop x")
        self.told("replace a 0 8", "done")
        self.told("back", "done")
        self.told("part a .", "[7,7]")


if __name__ == "__main__":
    unittest.main()
