import unittest

from owinghall import errors

NAMES = ["BadWeb", "Parted", "BadStanding", "BadHouse", "BadOrder", "BadNumber", "TooWide", "NoBridge", "NoText"]


class ErrorsTest(unittest.TestCase):
    def test_owing_error_stands_straight_under_value_error(self):
        self.assertEqual(errors.OwingError.__bases__, (ValueError,))

    def test_each_refusal_stands_straight_under_owing_error(self):
        for name in NAMES:
            with self.subTest(name=name):
                self.assertEqual(getattr(errors, name).__bases__, (errors.OwingError,))

    def test_the_refusals_are_classes_of_their_own(self):
        self.assertEqual(len({getattr(errors, name) for name in NAMES}), 9)

    def test_each_refusal_is_taken_as_itself_and_as_those_above_it(self):
        for name in NAMES:
            kind = getattr(errors, name)
            for taken in (kind, errors.OwingError, ValueError):
                with self.subTest(name=name, taken=taken), self.assertRaises(taken):
                    raise kind("words")


if __name__ == "__main__":
    unittest.main()
