import unittest

from rankpouch import errors
from rankpouch.errors import NoPlace, NoPouch, NoRow, NoSize, NoText, NoTimes, RankError, Unlike, Wrong

ALL = (NoRow, NoPlace, NoPouch, NoSize, Wrong, NoTimes, Unlike, NoText)


class Classes(unittest.TestCase):
    def test_rank_error_stands_right_under_value_error(self):
        self.assertEqual(RankError.__bases__, (ValueError,))

    def test_each_stands_right_under_rank_error(self):
        for kind in ALL:
            with self.subTest(kind=kind.__name__):
                self.assertEqual(kind.__bases__, (RankError,))

    def test_they_are_eight_unlike_classes(self):
        self.assertEqual(len(set(ALL)), 8)
        for kind in ALL:
            self.assertIs(getattr(errors, kind.__name__), kind)


class Fields(unittest.TestCase):
    def test_at(self):
        for kind in (NoRow, NoPouch, Wrong):
            for at in (0, 1, 1999):
                with self.subTest(kind=kind.__name__, at=at):
                    self.assertEqual(kind(at).at, at)

    def test_row(self):
        for row in (0, 1, 2000):
            self.assertEqual(NoText(row).row, row)

    def test_they_have_words(self):
        for error in (NoRow(7), NoPouch(7), Wrong(7), NoText(7)):
            self.assertIn("7", str(error))


if __name__ == "__main__":
    unittest.main()
