"""The classes of errors and their attributes."""

import unittest

from readingring import errors

PLAIN = [
    "UnknownReader", "UnknownBook", "InvalidNumber", "SameBook", "OtherRing",
    "AlreadyOpen", "Contradiction", "InvalidCount",
]

WITH_ATTRIBUTES = {
    "InvalidRing": {"part": "starts", "index": -1},
    "InvalidChain": {"index": 1},
    "BeingRead": {"book": 2},
    "InvalidOperation": {"index": 3},
    "DiaryError": {"entry": 4},
    "NotationError": {"row": 5, "word": 6},
    "DecodeError": {"offset": 7},
}


class ErrorsTest(unittest.TestCase):
    def test_base_class_is_a_value_error(self):
        self.assertEqual(errors.ReadingError.__bases__, (ValueError,))

    def test_all_others_are_direct_subclasses(self):
        for name in [*PLAIN, *WITH_ATTRIBUTES]:
            with self.subTest(name):
                self.assertEqual(getattr(errors, name).__bases__, (errors.ReadingError,))

    def test_all_are_defined_in_their_file(self):
        for name in ["ReadingError", *PLAIN, *WITH_ATTRIBUTES]:
            self.assertEqual(getattr(errors, name).__module__, "readingring.errors")

    def test_attributes_are_set_when_the_error_is_created(self):
        for name, attributes in WITH_ATTRIBUTES.items():
            with self.subTest(name):
                error = getattr(errors, name)(**attributes)
                self.assertEqual({key: getattr(error, key) for key in attributes}, attributes)

    def test_attributes_are_given_in_the_order_of_the_document(self):
        for name, attributes in WITH_ATTRIBUTES.items():
            with self.subTest(name):
                error = getattr(errors, name)(*attributes.values())
                self.assertEqual({key: getattr(error, key) for key in attributes}, attributes)

    def test_each_error_is_caught_by_the_base_class(self):
        for name in WITH_ATTRIBUTES:
            with self.assertRaises(errors.ReadingError):
                raise getattr(errors, name)(*WITH_ATTRIBUTES[name].values())
        for name in PLAIN:
            with self.assertRaises(errors.ReadingError):
                raise getattr(errors, name)()


if __name__ == "__main__":
    unittest.main()
