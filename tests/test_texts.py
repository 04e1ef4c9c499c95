"""Data pouches and rows as texts: points 24 and 25."""

import itertools
import random
import re
import unittest

from helpers import HUGE, KINDS, LONGEST, good_pouches, stays
from pouch_checks import filled
from rankpouch.errors import NoText, RankError
from rankpouch.gaps import empty, of_run
from rankpouch.ladder import Gaps
from rankpouch.texts import read, read_row, shown, shown_row

SIXTY = "9" * 60
# What is none of the numbers that point 24 speaks of.
NO_NUMBERS = ("-", "--1", "-0", "00", "01", "-01", "000", "-00", "+1", "+0", "1+", "1-", "1-1", ".", "1.", "1.0", ".5",
              "a", "1a", "a1", "0x1", "1e3", "_", "1_0", "_1", "1_", "\t1", "1\t", "1\t1", "\t", "~", "!", "1,000", "(1)",
              "1" * 61, "-" + "1" * 61, "0" * 60, "0" + "1" * 59, "1" + "0" * 60, "9" * 5000)
NUMBERS = {"0": 0, "1": 1, "-1": -1, "9": 9, "10": 10, "-10": -10, "100": 100, SIXTY: HUGE, "-" + SIXTY: -HUGE,
           "1" + "0" * 59: 10 ** 59, "-1" + "0" * 59: -10 ** 59, str(LONGEST): LONGEST}


class TextTest(unittest.TestCase):
    def assert_refused(self, function, text, row):
        with self.assertRaises(RankError) as caught:
            function(text)
        self.assertIs(type(caught.exception), NoText, repr(text[:80]))
        self.assertEqual(caught.exception.row, row, repr(text[:80]))


class Shown(TextTest):
    def test_without_entries(self):
        self.assertEqual(stays(shown, empty()), "0 0 0")
        self.assertEqual(stays(shown, (5, 12, 345, [])), "5 12 345")

    def test_with_entries(self):
        self.assertEqual(stays(shown, (1, 0, 0, [(7, 1, 1)])), "1 0 0\n7 1 1")
        self.assertEqual(stays(shown, (6, 6, 1, [(3, 1, 1), (5, 6, 6)])), "6 6 1\n3 1 1\n5 6 6")

    def test_numbers_below_0(self):
        self.assertEqual(stays(shown, (2, 0, 0, [(-30, 1, 1), (-3, 2, 2)])), "2 0 0\n-30 1 1\n-3 2 2")
        self.assertEqual(stays(shown, (-1, -2, -3, [(-4, -5, -6)])), "-1 -2 -3\n-4 -5 -6")

    def test_numbers_of_one_and_of_sixty_figures(self):
        self.assertEqual(stays(shown, (HUGE, 0, 9, [(-HUGE, 1, HUGE)])), f"{SIXTY} 0 9\n-{SIXTY} 1 {SIXTY}")

    def test_no_form_is_looked_at(self):
        self.assertEqual(stays(shown, (0, 0, 0, [(5, 3, 1), (4, 9, 9)])), "0 0 0\n5 3 1\n4 9 9")

    def test_a_row(self):
        self.assertEqual(stays(shown_row, [(5, 2), (-3, 1), (5, 1000000000)]), "5 2\n-3 1\n5 1000000000")
        self.assertEqual(stays(shown_row, [(0, 1)]), "0 1")
        self.assertEqual(stays(shown_row, [(HUGE, 7), (-HUGE, 1)]), f"{SIXTY} 7\n-{SIXTY} 1")

    def test_times_may_be_any(self):
        self.assertEqual(stays(shown_row, [(1, 0), (2, -5), (3, HUGE)]), f"1 0\n2 -5\n3 {SIXTY}")

    def test_the_empty_row(self):
        self.assertEqual(stays(shown_row, []), "")

    def test_more_than_sixty_figures(self):
        for figures in (61, 62, 119, 120, 121, 600, 4299, 4300, 4301, 5000, 9999):
            for text in ("1" + "0" * (figures - 1), "9" * figures, ("1234567890" * 1000)[:figures],
                         ("1" + "0" * 59 + "7") * 170):
                number = 0
                for figure in text:
                    number = number * 10 + int(figure)
                self.assertEqual(stays(shown_row, [(number, -number)]), f"{text} -{text}")
                self.assertEqual(stays(shown, (number, 1, -number, [(2, number, 3)])), f"{text} 1 -{text}\n2 {text} 3")
                self.assert_refused(read_row, f"1 1\n{text} 1", 1)

    def test_it_is_a_text(self):
        for told in (shown(empty()), shown((1, 0, 0, [(7, 1, 1)])), shown_row([]), shown_row([(1, 1)])):
            self.assertIs(type(told), str)


class Read(TextTest):
    def test_without_entries(self):
        self.assertEqual(stays(read, "0 0 0"), (0, 0, 0, []))
        self.assertEqual(stays(read, "5 12 345"), (5, 12, 345, []))

    def test_with_entries(self):
        self.assertEqual(stays(read, "6 6 1\n-3 1 1\n5 6 6"), (6, 6, 1, [(-3, 1, 1), (5, 6, 6)]))

    def test_no_form_is_looked_at(self):
        self.assertEqual(stays(read, "0 0 0\n5 3 1\n4 9 -9"), (0, 0, 0, [(5, 3, 1), (4, 9, -9)]))
        self.assertEqual(stays(read, "-7 -8 -9"), (-7, -8, -9, []))

    def test_a_row(self):
        self.assertEqual(stays(read_row, "5 2\n-3 1\n5 1000000000"), [(5, 2), (-3, 1), (5, 1000000000)])
        self.assertEqual(stays(read_row, "5 0\n-3 -1"), [(5, 0), (-3, -1)])

    def test_the_text_without_signs(self):
        self.assertEqual(stays(read_row, ""), [])
        self.assert_refused(read, "", 0)

    def test_every_good_number_at_every_place(self):
        for text, number in NUMBERS.items():
            self.assertEqual(read(f"{text} 1 2\n{text} 3 4"), (number, 1, 2, [(number, 3, 4)]))
            self.assertEqual(read(f"1 {text} 2\n3 {text} 4"), (1, number, 2, [(3, number, 4)]))
            self.assertEqual(read(f"1 2 {text}\n3 4 {text}"), (1, 2, number, [(3, 4, number)]))
            self.assertEqual(read_row(f"{text} 1\n2 {text}"), [(number, 1), (2, number)])

    def test_kinds(self):
        told = read("1 2 3\n4 5 6\n7 8 9")
        self.assertIs(type(told), tuple)
        self.assertEqual([type(part) for part in told], [int, int, int, list])
        self.assertEqual([type(entry) for entry in told[3]], [tuple, tuple])
        self.assertEqual([type(number) for number in told[3][0]], [int, int, int])
        self.assertIs(type(read_row("")), list)
        self.assertEqual([type(run) for run in read_row("1 2\n3 4")], [tuple, tuple])

    def test_what_is_told_is_each_time_a_new_one(self):
        for text in ("1 2 3", "1 2 3\n4 5 6"):
            before = read(text)
            read(text)[3].append(99)
            self.assertEqual(read(text), before)
        for text in ("", "1 2\n3 4"):
            before = read_row(text)
            read_row(text).append(99)
            self.assertEqual(read_row(text), before)

    def test_by_name(self):
        self.assertEqual((shown(pouch=(1, 2, 3, [])), shown_row(row=[(1, 2)])), ("1 2 3", "1 2"))
        self.assertEqual((read(text="1 2 3"), read_row(text="1 2")), ((1, 2, 3, []), [(1, 2)]))


class ReadAgain(TextTest):
    def assert_read_again(self, pouch):
        self.assertEqual(read(shown(pouch)), pouch)
        self.assertEqual(shown(read(shown(pouch))), shown(pouch))

    def test_small_data_pouches(self):
        for size in range(4):
            for pouch in good_pouches(size, (-10, 0, HUGE)):
                self.assert_read_again(pouch)
        self.assert_read_again(of_run(-HUGE, LONGEST))

    def test_numbers_of_any_kind(self):
        for numbers in itertools.permutations(NUMBERS.values(), 3):
            self.assert_read_again(numbers + ([],))
            self.assert_read_again((1, 1, 1, [numbers, numbers[::-1]]))
            row = [numbers[:2], numbers[1:]]
            self.assertEqual(read_row(shown_row(row)), row)

    def test_drawn_rows_and_what_gaps_tells_of_them(self):
        for kind in KINDS:
            draw = random.Random(f"texts {kind.__name__}")
            for keep in (1, 5, 1000):
                row = kind(draw)
                self.assertEqual(read_row(shown_row(row)), row)
                self.assert_read_again(filled(Gaps, keep, row).pouch())

    def test_great_ones(self):
        row = [(number * 7919 % 100003 - 50000, number % 9 + 1) for number in range(2000)]
        self.assertEqual(read_row(shown_row(row)), row)
        self.assert_read_again((2000, 5, 1, [(number, number, number + 5) for number in range(2000)]))

    def test_what_gaps_told_is_taken_however_great(self):
        pouch = Gaps(1000)
        for number in range(9000):
            pouch.put(number * 7919 % 10007, 2)
        told = pouch.pouch()
        self.assertGreater(len(told[3]), 2000)
        self.assert_read_again(told)

    def test_all_short_texts(self):
        # A text is read just where its rows are written as point 24 says, and what was read is shown as it was.
        number = r"(0|-?[1-9][0-9]{0,59})"
        for many, function, show in ((3, read, shown), (2, read_row, shown_row)):
            good_row = re.compile(" ".join([number] * many))
            for signs in itertools.product("01- \n\ta", repeat=5):
                text = "".join(signs)
                bad = [at for at, row in enumerate(text.split("\n")) if not good_row.fullmatch(row)]
                if bad:
                    self.assert_refused(function, text, bad[0])
                else:
                    self.assertEqual(show(function(text)), text)


class Refused(TextTest):
    def assert_row_refused(self, row, pouch_row):
        """Such a row is refused as the only, the first, a middle and the last one of a text."""
        function, good = (read, "1 2 3") if pouch_row else (read_row, "1 2")
        if row != "":
            self.assert_refused(function, row, 0)
        self.assert_refused(function, f"{row}\n{good}", 0)
        self.assert_refused(function, f"{good}\n{row}\n{good}", 1)
        self.assert_refused(function, f"{good}\n{good}\n{good}\n{row}\n{good}", 3)
        self.assert_refused(function, f"{good}\n{good}\n{row}", 2)
        # Of two such rows the first one is told.
        self.assert_refused(function, f"{good}\n{row}\n{row}", 1)
        self.assert_refused(function, f"{row}\n{row}", 0)

    def test_too_few_and_too_many(self):
        for row in ("", "1", "1 2", "1 2 3 4", "1 2 3 4 5 6"):
            self.assert_row_refused(row, True)
        for row in ("", "1", "1 2 3", "1 2 3 4"):
            self.assert_row_refused(row, False)

    def test_blanks(self):
        for row in ("1  2 3", "1 2  3", " 1 2 3", "1 2 3 ", "  1 2 3", "1 2 3  ", "1  2", "1 2 ", " 1 2", " ", "  ",
                    "   "):
            self.assert_row_refused(row, True)
        for row in ("1  2", " 1 2", "1 2 ", "1   2", "1 ", " 1", " ", "  "):
            self.assert_row_refused(row, False)

    def test_tabs(self):
        for row in ("1\t2 3", "1\t2\t3", "1 2\t3", "\t1 2 3", "1 2 3\t", "1 2 \t3", "1\t 2 3", "1 2 \t", "\t\t\t"):
            self.assert_row_refused(row, True)
        for row in ("1\t2", "\t1 2", "1 2\t", "1 \t2", "1\t 2", "1 \t"):
            self.assert_row_refused(row, False)

    def test_every_bad_number_at_every_place(self):
        for part in NO_NUMBERS:
            for row in (f"{part} 1 2", f"1 {part} 2", f"1 2 {part}", f"-{SIXTY} {SIXTY} {part}"):
                self.assert_row_refused(row, True)
            for row in (f"{part} 1", f"1 {part}", f"{part} {part}"):
                self.assert_row_refused(row, False)

    def test_every_sign_beside_a_figure(self):
        for sign in [chr(at) for at in range(32, 127)] + ["\t"]:
            if sign not in "0123456789":
                for part in (f"1{sign}", f"1{sign}1", sign):
                    self.assert_row_refused(f"{part} 5 6", True)
                    self.assert_row_refused(f"5 {part}", False)
                if sign != "-":
                    self.assert_row_refused(f"5 {sign}1 6", True)
                    self.assert_row_refused(f"{sign}1 6", False)

    def test_line_ends(self):
        self.assert_refused(read, "1 2 3\n", 1)
        self.assert_refused(read, "1 2 3\n4 5 6\n", 2)
        self.assert_refused(read, "1 2 3\n\n4 5 6", 1)
        self.assert_refused(read, "1 2 3\n\n", 1)
        self.assert_refused(read, "\n1 2 3", 0)
        self.assert_refused(read, "\n", 0)
        self.assert_refused(read, "\n\n", 0)
        self.assert_refused(read_row, "1 2\n", 1)
        self.assert_refused(read_row, "1 2\n3 4\n", 2)
        self.assert_refused(read_row, "1 2\n\n3 4", 1)
        self.assert_refused(read_row, "1 2\n\n", 1)
        self.assert_refused(read_row, "\n1 2", 0)
        self.assert_refused(read_row, "\n", 0)
        self.assert_refused(read_row, "\n\n", 0)

    def test_sixty_and_sixty_one_figures(self):
        for figure in "19":
            for minus in ("", "-"):
                self.assertEqual(read(f"1 2 3\n{minus}{figure * 60} 5 6")[3], [(int(minus + figure * 60), 5, 6)])
                self.assert_refused(read, f"1 2 3\n{minus}{figure * 61} 5 6", 1)
                self.assertEqual(read_row(f"5 {minus}{figure * 60}"), [(5, int(minus + figure * 60))])
                self.assert_refused(read_row, f"5 {minus}{figure * 61}", 0)

    def test_far_behind(self):
        good = ["1 2 3"] * 2001
        for at in (0, 1, 1000, 1999, 2000):
            self.assert_refused(read, "\n".join(good[:at] + ["1 2"] + good[at + 1:]), at)
            self.assert_refused(read_row, "\n".join(["4 5"] * at + ["4"] + ["4 5"] * (2000 - at)), at)

    def test_a_row_is_no_data_pouch(self):
        self.assert_refused(read, shown_row([(1, 2), (3, 4)]), 0)
        self.assert_refused(read, shown_row([]), 0)
        self.assert_refused(read_row, shown((1, 0, 0, [(7, 1, 1)])), 0)


if __name__ == "__main__":
    unittest.main()
