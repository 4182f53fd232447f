import unittest

from minders import errors
from minders.errors import BadRow, MinderError, NoLeaf, NoName, NoNumber, NotOn, NoTop, TooMany

PLAIN = (NoNumber, TooMany, NoTop, NoName, NoLeaf, NotOn)
SISTERS = PLAIN + (BadRow,)


class ErrorsTest(unittest.TestCase):
    def test_minder_error_stands_straight_under_value_error(self):
        self.assertEqual(MinderError.__bases__, (ValueError,))

    def test_each_stands_straight_under_minder_error(self):
        for kind in SISTERS:
            with self.subTest(kind=kind.__name__):
                self.assertEqual(kind.__bases__, (MinderError,))
                self.assertTrue(issubclass(kind, ValueError))

    def test_each_is_none_of_its_sisters(self):
        for kind in SISTERS:
            for other in SISTERS:
                if kind is not other:
                    with self.subTest(kind=kind.__name__, other=other.__name__):
                        self.assertFalse(issubclass(kind, other))

    def test_each_bears_its_own_name(self):
        names = ("NoNumber", "TooMany", "NoTop", "NoName", "NoLeaf", "NotOn", "BadRow")
        self.assertEqual(tuple(kind.__name__ for kind in SISTERS), names)
        for name in names:
            self.assertIs(getattr(errors, name).__mro__[1], MinderError)

    def test_each_is_taken_as_itself_as_minder_error_and_as_value_error(self):
        for kind in PLAIN:
            for taken in (kind, MinderError, ValueError):
                with self.subTest(kind=kind.__name__, taken=taken.__name__):
                    with self.assertRaises(taken):
                        raise kind("refused")
        for taken in (BadRow, MinderError, ValueError):
            with self.subTest(kind="BadRow", taken=taken.__name__):
                with self.assertRaises(taken):
                    raise BadRow(1)

    def test_a_sister_does_not_take_it(self):
        with self.assertRaises(NoLeaf):
            try:
                raise NoLeaf("refused")
            except (NoNumber, BadRow, TooMany, NoTop, NoName, NotOn):
                self.fail("a sister took it")

    def test_bad_row_bears_its_row(self):
        for row in (1, 2, 65, 100001):
            with self.subTest(row=row):
                self.assertEqual(BadRow(row).row, row)

    def test_each_bad_row_has_a_row_of_its_own(self):
        first = BadRow(3)
        second = BadRow(4)
        self.assertEqual((first.row, second.row), (3, 4))


if __name__ == "__main__":
    unittest.main()
