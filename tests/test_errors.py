"""The errors: their base classes, and the position of InvalidText."""

import unittest

from coverpapers import errors
from coverpapers.errors import CoverError, InvalidText

NAMES = [
    "WrongMove",
    "NotRelated",
    "Related",
    "NoCorner",
    "WrongShape",
    "OutOfRange",
    "EmptyWindow",
    "InvalidText",
]


class ErrorsTest(unittest.TestCase):
    def test_the_base_class_is_a_value_error(self):
        self.assertTrue(issubclass(CoverError, ValueError))

    def test_each_error_is_a_cover_error_and_none_of_the_others(self):
        for name in NAMES:
            error = getattr(errors, name)
            self.assertTrue(issubclass(error, CoverError), name)
            self.assertTrue(issubclass(error, ValueError), name)
            for other in NAMES:
                if other != name:
                    self.assertFalse(issubclass(error, getattr(errors, other)), (name, other))

    def test_each_error_is_caught_as_a_cover_error_and_as_a_value_error(self):
        for name in NAMES:
            error = getattr(errors, name)
            for base in (CoverError, ValueError, error):
                with self.assertRaises(base):
                    raise error(0) if name == "InvalidText" else error("why")

    def test_invalid_text_has_its_position_from_the_start(self):
        for position in (0, 1, 17):
            self.assertEqual(InvalidText(position).position, position)

    def test_each_invalid_text_has_its_own_position(self):
        first = InvalidText(3)
        second = InvalidText(5)
        self.assertEqual((first.position, second.position), (3, 5))

    def test_a_caught_invalid_text_tells_its_position(self):
        with self.assertRaises(InvalidText) as caught:
            raise InvalidText(4)
        self.assertEqual(caught.exception.position, 4)


if __name__ == "__main__":
    unittest.main()
