import unittest

from sameasnew import errors
from sameasnew import expressions

PLAIN = ("AtWork", "NotKept", "NotOpen", "LogFull", "PowerCut", "NoLetter")
ALL = ("OutOfRange",) + PLAIN


class Classes(unittest.TestCase):
    def test_base_is_a_value_error(self):
        self.assertEqual(errors.ModuleError.__bases__, (ValueError,))

    def test_each_is_directly_below_the_base(self):
        for name in ALL:
            with self.subTest(name):
                self.assertEqual(getattr(errors, name).__bases__, (errors.ModuleError,))

    def test_none_is_below_another_one(self):
        for name in ALL:
            for other in ALL:
                with self.subTest(name, other=other):
                    below = issubclass(getattr(errors, name), getattr(errors, other))
                    self.assertIs(below, name == other)

    def test_each_is_caught_as_base_and_as_value_error(self):
        for name in ALL:
            for caught in (errors.ModuleError, ValueError):
                with self.subTest(name, caught=caught):
                    with self.assertRaises(caught):
                        raise getattr(errors, name)("words")

    def test_each_stands_in_its_file(self):
        for name in ("ModuleError",) + ALL:
            with self.subTest(name):
                self.assertEqual(getattr(errors, name).__module__, "sameasnew.errors")

    def test_other_errors_of_the_package_are_below_the_base(self):
        self.assertTrue(issubclass(expressions.NoExpression, errors.ModuleError))


class Fields(unittest.TestCase):
    def test_out_of_range_has_the_name(self):
        for name in ("entries", "text", "at", ""):
            with self.subTest(name):
                self.assertEqual(errors.OutOfRange(name).name, name)
                self.assertEqual(errors.OutOfRange(name=name).name, name)

    def test_out_of_range_keeps_the_name_when_it_is_caught(self):
        with self.assertRaises(errors.OutOfRange) as caught:
            raise errors.OutOfRange("changes")
        self.assertEqual(vars(caught.exception), {"name": "changes"})

    def test_out_of_range_needs_one_name(self):
        with self.assertRaises(TypeError):
            errors.OutOfRange()
        with self.assertRaises(TypeError):
            errors.OutOfRange("a", "b")

    def test_others_are_made_with_one_string_and_have_no_fields(self):
        for name in PLAIN + ("ModuleError",):
            with self.subTest(name):
                error = getattr(errors, name)("some words")
                self.assertEqual(vars(error), {})
                self.assertEqual(str(error), "some words")


if __name__ == "__main__":
    unittest.main()
