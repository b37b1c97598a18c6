"""Point 3 and the interface of truemill/errors.py."""

import unittest

from truemill import errors

ATTRIBUTES = {
    "BadTree": ("path",),
    "Conflict": ("path",),
    "BadText": ("reason",),
    "StoreFull": (),
    "NoCredit": (),
    "BadMessage": (),
    "Missing": ("name",),
    "NotPinned": ("name",),
    "SyntaxProblem": ("line", "column"),
    "EvalProblem": ("line", "column", "reason"),
    "GraphProblem": ("label", "reason"),
    "RosterProblem": ("reason",),
    "FloorProblem": ("reason",),
    "BuildProblem": ("key",),
    "JournalProblem": ("position",),
}
VALUES = {
    "path": "a/b",
    "reason": "too long",
    "name": 7,
    "line": 3,
    "column": 14,
    "label": "//a:b",
    "key": ("join", (" ",), (1, 2)),
    "position": 5,
}


class ErrorTests(unittest.TestCase):
    def test_all_classes_of_the_interface_are_there(self):
        own = [name for name, value in vars(errors).items() if isinstance(value, type)]
        self.assertEqual(sorted(own), sorted([*ATTRIBUTES, "MillError"]))

    def test_each_class_takes_its_attributes_by_position(self):
        for name, attributes in ATTRIBUTES.items():
            with self.subTest(name):
                values = [VALUES[attribute] for attribute in attributes]
                error = getattr(errors, name)(*values)
                for attribute, value in zip(attributes, values):
                    self.assertEqual(getattr(error, attribute), value)
                self.assertEqual(vars(error), dict(zip(attributes, values)))

    def test_each_class_takes_no_more_and_no_less(self):
        for name, attributes in ATTRIBUTES.items():
            if attributes:
                with self.subTest(name):
                    values = [VALUES[attribute] for attribute in attributes]
                    with self.assertRaises(TypeError):
                        getattr(errors, name)(*values[1:])
                    with self.assertRaises(TypeError):
                        getattr(errors, name)(*values, 1)

    def test_each_class_is_a_mill_error_and_a_value_error(self):
        for name in ATTRIBUTES:
            with self.subTest(name):
                self.assertEqual(getattr(errors, name).__bases__, (errors.MillError,))
        self.assertEqual(errors.MillError.__bases__, (ValueError,))

    def test_no_class_is_another_class_of_the_list(self):
        for name in ATTRIBUTES:
            for other in ATTRIBUTES:
                same = issubclass(getattr(errors, name), getattr(errors, other))
                self.assertEqual(same, name == other, (name, other))

    def test_errors_can_be_raised_and_caught(self):
        for name, attributes in ATTRIBUTES.items():
            with self.subTest(name):
                error = getattr(errors, name)
                values = [VALUES[attribute] for attribute in attributes]
                with self.assertRaises(error):
                    raise error(*values)
                with self.assertRaises(ValueError):
                    raise error(*values)


if __name__ == "__main__":
    unittest.main()
