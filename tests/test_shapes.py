import unittest

from making import FALSE, NONE, TRUE, array, built, data, dictionary, integer, text, uid, wide
from nestfile.files import read
from nestfile.rows import shape_of

SEVEN = ("integer", 7, ())


class TestShapes(unittest.TestCase):
    """The shape that nests are compared by has the order of the shortest file, promise [13]."""

    def shape(self, objects, top=None):
        nest = read(built(objects, top))
        return shape_of(nest.web.rows, nest.top_row)

    def test_leaves(self):
        for one, row in ((NONE, ("none", None)), (TRUE, ("truth", True)), (FALSE, ("truth", False)),
                         (integer(-1, 3), ("integer", -1)), (integer(2 ** 64 - 1), ("integer", 2 ** 64 - 1)),
                         (uid(5, 12), ("uid", 5)), (data([1, 255]), ("data", (1, 255))), (text("a b"), ("string", "a b")),
                         (wide([97, 126, 32]), ("string", "a~ ")), (wide([8364, 37]), ("string", (8364, 37)))):
            self.assertEqual(self.shape([one]), (row + ((),),))
        every = "".join([chr(at) for at in range(32, 127) if at != 37])
        self.assertEqual(self.shape([text(every)]), (("string", every, ()),))

    def test_the_top_one_stands_last_and_alike_parts_once(self):
        expected = (SEVEN, ("list", None, (0, 0)))
        self.assertEqual(self.shape([integer(7), array([0, 0])]), expected)
        self.assertEqual(self.shape([array([1, 2]), integer(7), integer(7, 2), NONE], 0), expected)

    def test_each_item_is_followed_by_its_own_parts(self):
        # [[[7], true], [7], none]
        objects = [NONE, integer(7), TRUE, array([1]), array([3, 2]), array([4, 3, 0])]
        self.assertEqual(self.shape(objects), (
            ("list", None, (1, 3)), ("list", None, (2,)), SEVEN, ("truth", True, ()), ("none", None, ()),
            ("list", None, (0, 1, 4))))

    def test_keys_ascending_stand_before_the_values(self):
        # {"b": [7], "a": "b"}
        objects = [integer(7), array([0]), text("b"), text("a"), dictionary([(2, 1), (3, 2)])]
        self.assertEqual(self.shape(objects), (
            ("string", "a", ()), ("string", "b", ()), ("list", None, (3,)), SEVEN,
            ("dictionary", None, (0, 1, 1, 2))))


if __name__ == "__main__":
    unittest.main()
