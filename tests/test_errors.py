import unittest

from oneforall import errors
from oneforall.errors import StreamError

NAMES = ["InvalidNumber", "InvalidState", "UnknownMember", "TooManyLost", "NothingToUndo", "Unreadable"]


class ErrorsTest(unittest.TestCase):

    def classes(self):
        return [StreamError] + [getattr(errors, name) for name in NAMES]

    def test_bases(self):
        self.assertEqual(StreamError.__bases__, (ValueError,))
        for name in NAMES:
            self.assertEqual(getattr(errors, name).__bases__, (StreamError,), name)

    def test_no_other_classes(self):
        found = [name for name, thing in vars(errors).items() if isinstance(thing, type)]
        self.assertEqual(sorted(found), sorted(NAMES + ["StreamError"]))

    def test_value_is_stored_itself(self):
        held = [1, [2]]
        for error in self.classes():
            for value in (held, None, 0, -3, "", (1, "x"), error):
                self.assertIs(error(value).value, value)
                self.assertIs(error(value=value).value, value)

    def test_one_argument(self):
        for error in self.classes():
            with self.assertRaises(TypeError):
                error()
            with self.assertRaises(TypeError):
                error(1, 2)
            with self.assertRaises(TypeError):
                error(other=1)

    def test_each_class_has_its_own_constructor(self):
        for error in self.classes():
            self.assertIn("__init__", vars(error))
            self.assertEqual(error.__module__, "oneforall.errors")

    def test_may_be_caught_as_stream_error(self):
        for error in self.classes():
            with self.assertRaises(StreamError) as caught:
                raise error(7)
            self.assertIs(type(caught.exception), error)
            self.assertEqual(caught.exception.value, 7)


if __name__ == "__main__":
    unittest.main()
