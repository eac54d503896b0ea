import unittest

from asifone.errors import AsifoneError, EventError, FileError, TextError


class ErrorsTest(unittest.TestCase):
    def test_base_class(self):
        self.assertTrue(issubclass(AsifoneError, ValueError))
        for error in (TextError, FileError, EventError):
            self.assertTrue(issubclass(error, AsifoneError))

    def test_none_is_a_subclass_of_another(self):
        errors = (TextError, FileError, EventError)
        for one in errors:
            for other in errors:
                self.assertEqual(issubclass(one, other), one is other)

    def test_fields(self):
        error = TextError(3, 6, "unknown name")
        self.assertEqual((error.line, error.column, error.message), (3, 6, "unknown name"))
        self.assertEqual(FileError("not a shard file").reason, "not a shard file")
        self.assertEqual(EventError("rank is down").reason, "rank is down")

    def test_they_are_raised(self):
        with self.assertRaises(AsifoneError):
            raise TextError(1, 1, "loss is missing")
        with self.assertRaises(ValueError):
            raise FileError("checksum mismatch")
        with self.assertRaises(AsifoneError):
            raise EventError("rank is up")
        with self.assertRaises(AsifoneError):
            raise AsifoneError("something else")
