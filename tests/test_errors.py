import unittest

from finesse import errors
from finesse.errors import FinesseError, InvalidLine

NAMES = [
    "InvalidDeck", "InvalidText", "InvalidDeal", "NoSuchNumber",
    "AuctionOver", "AuctionNotOver", "IllegalCall",
    "InvalidTrump", "PlayOver", "IllegalCard", "NothingPut",
    "WrongPaper", "InvalidView", "TooMany", "NoFit", "InvalidLine",
]


class ErrorClasses(unittest.TestCase):
    def test_base_class_is_directly_below_value_error(self):
        self.assertEqual(FinesseError.__bases__, (ValueError,))

    def test_each_error_is_directly_below_the_base_class(self):
        for name in NAMES:
            with self.subTest(name=name):
                self.assertEqual(getattr(errors, name).__bases__, (FinesseError,))

    def test_no_two_names_mean_the_same_class(self):
        classes = {getattr(errors, name) for name in NAMES}
        self.assertEqual(len(classes), len(NAMES))
        self.assertNotIn(FinesseError, classes)

    def test_they_are_defined_in_this_file_under_their_names(self):
        for name in NAMES + ["FinesseError"]:
            with self.subTest(name=name):
                self.assertEqual(getattr(errors, name).__name__, name)
                self.assertEqual(getattr(errors, name).__module__, "finesse.errors")


class TheLineOfInvalidLine(unittest.TestCase):
    def test_attribute(self):
        for line in (1, 2, 77, 123456):
            with self.subTest(line=line):
                error = InvalidLine(line)
                self.assertEqual(error.line, line)
                self.assertIs(type(error.line), int)

    def test_two_errors_keep_their_own_lines(self):
        first, second = InvalidLine(3), InvalidLine(8)
        self.assertEqual((first.line, second.line), (3, 8))

    def test_it_is_caught_as_each_class_above(self):
        for above in (InvalidLine, FinesseError, ValueError):
            with self.subTest(above=above.__name__):
                with self.assertRaises(above) as caught:
                    raise InvalidLine(5)
                self.assertEqual(caught.exception.line, 5)


if __name__ == "__main__":
    unittest.main()
