import unittest

from nestfile import errors

FIELDS = {
    "NoValue": {"path": (0, "a")},
    "Large": {"what": "depth"},
    "NoBytes": {"place": 3},
    "Torn": {"word": "ring", "place": 10},
    "NoPart": {"length": 2},
    "NoPlace": {"place": 5},
    "NoObject": {"number": 7},
    "NoFit": {"length": 3},
    "BadCount": {"what": "nests", "count": 101},
    "NoName": {"name": "A"},
    "NoFile": {"name": "a"},
    "NoBack": {},
    "BadText": {"place": 4},
}


class TestErrors(unittest.TestCase):
    def test_each_has_its_fields_by_keyword_and_by_place(self):
        for name, fields in FIELDS.items():
            with self.subTest(name):
                made = getattr(errors, name)
                self.assertEqual(vars(made(**fields)), fields)
                self.assertEqual(vars(made(*fields.values())), fields)

    def test_each_tells_its_name(self):
        for name, fields in FIELDS.items():
            with self.subTest(name):
                self.assertEqual(getattr(errors, name)(**fields).told(), "refused " + name.lower())

    def test_each_derives_directly_from_the_base_and_defines_told_itself(self):
        self.assertEqual(errors.NestError.__bases__, (ValueError,))
        for name in FIELDS:
            with self.subTest(name):
                made = getattr(errors, name)
                self.assertEqual(made.__bases__, (errors.NestError,))
                self.assertIn("told", vars(made))
                self.assertEqual(made.__module__, "nestfile.errors")

    def test_there_are_no_other_errors(self):
        found = [name for name, thing in vars(errors).items() if isinstance(thing, type)]
        self.assertEqual(sorted(found), sorted(list(FIELDS) + ["NestError"]))

    def test_a_path_is_kept_as_a_tuple(self):
        path = [0, "a"]
        error = errors.NoValue(path)
        path.append(1)
        self.assertEqual(error.path, (0, "a"))
        self.assertIsInstance(error.path, tuple)

    def test_each_can_be_raised_and_caught_by_its_name_and_by_the_base(self):
        for name, fields in FIELDS.items():
            made = getattr(errors, name)
            for caught in (made, errors.NestError, ValueError):
                with self.subTest(name), self.assertRaises(caught):
                    raise made(**fields)


if __name__ == "__main__":
    unittest.main()
