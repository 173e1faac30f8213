"""The errors [0.3]."""

import copy
import unittest

from cutlinked import errors
from cutlinked.forests import Forest
from tests.helper import FIELDS, package_errors, strange_things

CLASSES = {name: getattr(errors, name) for name in FIELDS}


class TestErrors(unittest.TestCase):
    def test_all_are_there(self):
        self.assertEqual(len(FIELDS), 26)
        here = [name for name, thing in vars(errors).items() if isinstance(thing, type)]
        self.assertEqual(sorted(here), sorted(list(FIELDS) + ["ForestError"]))

    def test_derive_directly(self):
        self.assertEqual(errors.ForestError.__bases__, (ValueError,))
        for name, error_class in CLASSES.items():
            with self.subTest(name):
                self.assertEqual(error_class.__bases__, (errors.ForestError,))
                self.assertEqual(error_class.__name__, name)
                self.assertEqual(error_class.__module__, "cutlinked.errors")

    def test_none_is_a_kind_of_another(self):
        for name, error_class in CLASSES.items():
            for other_name, other_class in CLASSES.items():
                with self.subTest(name, other=other_name):
                    self.assertEqual(issubclass(error_class, other_class), name == other_name)

    def test_keep_just_what_was_passed(self):
        for name, field in FIELDS.items():
            if field is None:
                self.assertEqual(vars(CLASSES[name]()), {})
                continue
            for thing in strange_things() + [0, 7, -1, 10 ** 20, 1.5, {1, 2}, 1j, object()]:
                with self.subTest(name):
                    made = CLASSES[name](thing)
                    self.assertIs(getattr(made, field), thing)
                    self.assertEqual(list(vars(made)), [field])

    def test_keep_what_can_be_changed_by_others(self):
        row = [1]
        made = errors.NoName(row)
        row.append(2)
        self.assertIs(made.name, row)
        self.assertEqual(made.name, [1, 2])

    def test_made_with_just_the_fields(self):
        for name, field in FIELDS.items():
            with self.subTest(name):
                wrong = [(1,), ("text",), (1, 2)] if field is None else [(), (1, 2)]
                for passed in wrong:
                    with self.assertRaises(TypeError):
                        CLASSES[name](*passed)

    def test_caught_by_own_class_and_by_forest_error(self):
        for made in package_errors():
            with self.subTest(made.__class__.__name__):
                for catching in (made.__class__, errors.ForestError, ValueError):
                    with self.assertRaises(catching) as caught:
                        raise made
                    self.assertIs(caught.exception, made)

    def test_not_caught_by_another_class(self):
        for made in package_errors():
            for name, error_class in CLASSES.items():
                if error_class is not made.__class__:
                    with self.subTest(made.__class__.__name__, other=name):
                        self.assertNotIsInstance(made, error_class)

    def test_equal_to_nothing_else(self):
        for made in package_errors():
            for thing in strange_things():
                self.assertFalse(made == thing)
            self.assertFalse(made == made.args)
            self.assertTrue(made == made)

    def test_can_be_copied(self):
        for name, field in FIELDS.items():
            made = CLASSES[name]() if field is None else CLASSES[name]((1, "a"))
            twin = copy.deepcopy(made)
            self.assertIs(twin.__class__, made.__class__)
            self.assertEqual(vars(twin), vars(made))

    def test_forest_error_of_forests(self):
        with self.assertRaises(errors.ForestError):
            Forest((), ())


if __name__ == "__main__":
    unittest.main()
