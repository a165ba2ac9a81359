"""The errors: points 8 and 17, and the interface of rootfirst/errors.py."""

import unittest

from rootfirst.errors import BadValue, NotPossible, TextError, TooLarge, TreeError


class Errors(unittest.TestCase):
    def test_each_has_its_attributes(self):
        self.assertEqual(BadValue("tree").name, "tree")
        self.assertEqual(TooLarge("trees").what, "trees")
        self.assertEqual(NotPossible("place").why, "place")
        error = TextError(6, "this symbol has another arity")
        self.assertEqual((error.column, error.words), (6, "this symbol has another arity"))

    def test_the_attributes_are_those_of_each_error(self):
        first, second = BadValue("tree"), BadValue("other")
        self.assertEqual((first.name, second.name), ("tree", "other"))

    def test_all_are_tree_errors_and_those_value_errors(self):
        self.assertTrue(issubclass(TreeError, ValueError))
        for error in (BadValue("a"), TooLarge("a"), NotPossible("a"), TextError(1, "a")):
            self.assertIsInstance(error, TreeError)
            self.assertIsInstance(error, ValueError)

    def test_none_below_tree_error_is_a_subclass_of_another(self):
        classes = (BadValue, TooLarge, NotPossible, TextError)
        for one in classes:
            for other in classes:
                self.assertEqual(issubclass(one, other), one is other)

    def test_they_can_be_raised_and_shown(self):
        for error in (BadValue("name"), TooLarge("what"), NotPossible("why"), TextError(1, "words")):
            with self.assertRaises(TreeError):
                raise error
            self.assertNotEqual(str(error), "")


if __name__ == "__main__":
    unittest.main()
