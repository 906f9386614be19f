import unittest

from exacttable import errors
from tests.things import NAMES


class Errors(unittest.TestCase):
    def test_any_refusal_is_straight_under_value_error(self):
        self.assertEqual(errors.TableError.__bases__, (ValueError,))

    def test_each_class_is_straight_under_table_error(self):
        self.assertEqual(len(NAMES), 17)
        for name in NAMES:
            self.assertEqual(getattr(errors, name).__bases__, (errors.TableError,), name)

    def test_no_class_is_another_one(self):
        for name in NAMES:
            for other in NAMES:
                alike = issubclass(getattr(errors, name), getattr(errors, other))
                self.assertEqual(alike, name == other, (name, other))

    def test_there_are_no_further_classes(self):
        found = [name for name in vars(errors) if isinstance(getattr(errors, name), type)]
        self.assertEqual(sorted(found), sorted(NAMES + ("TableError",)))

    def test_each_is_made_of_a_text(self):
        for name in NAMES + ("TableError",):
            made = getattr(errors, name)("some words")
            self.assertEqual(str(made), "some words")
            self.assertIsInstance(made, ValueError)


if __name__ == "__main__":
    unittest.main()
