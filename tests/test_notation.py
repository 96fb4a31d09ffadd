import unittest

from tests.plain_pile import PlainPile, mixed_rows, small_rows
from tests.wrong_values import LAST, NO_NUMBERS, OUT_OF_RANGE
from topletter.errors import InvalidNumber, InvalidTimetable, NotationError
from topletter.notation import chart, format_timetable, parse_timetable
from topletter.timetables import Timetable


class Texts(unittest.TestCase):
    def test_the_text_of_a_timetable(self):
        self.assertEqual(format_timetable(Timetable((9, 0))), "row 9 0")
        self.assertEqual(format_timetable(Timetable((0, 1), (2, 3), (4, 5))), "row 0 1\nrow 2 3\nrow 4 5")

    def test_24_rows(self):
        text = "\n".join(["row 1 9"] * 24)
        self.assertEqual(format_timetable(Timetable(*[(1, 9)] * 24)), text)
        self.assertEqual(parse_timetable(text).rows, ((1, 9),) * 24)

    def test_the_timetable_of_a_text(self):
        found = parse_timetable("row 0 1\nrow 2 3\nrow 4 5")
        self.assertIsInstance(found, Timetable)
        self.assertEqual(repr(found.rows), "((0, 1), (2, 3), (4, 5))")

    def test_all_rows_there_and_back(self):
        for come in range(10):
            for answers in range(10):
                self.assertEqual(parse_timetable(f"row {come} {answers}").rows, ((come, answers),))

    def test_many_timetables_there_and_back(self):
        for rows in small_rows() + mixed_rows(96):
            text = format_timetable(Timetable(*rows))
            self.assertEqual(text.split("\n"), [f"row {come} {answers}" for come, answers in rows])
            self.assertEqual(parse_timetable(text).rows, tuple(rows))


class WrongTexts(unittest.TestCase):
    def assert_wrong(self, text, row, word):
        with self.assertRaises(NotationError) as caught:
            parse_timetable(text)
        self.assertIs(type(caught.exception), NotationError)
        self.assertEqual([caught.exception.row, caught.exception.word], [row, word], text)

    def test_one_row(self):
        wrong = {
            "": 0, " ": 0, "  ": 0, "row": 1, "row ": 1, "row  ": 1, "row 1": 2, "row 1 ": 2, "row 1 1 ": 3,
            "row 1 1  ": 3, "row 1 1 1": 3, "row 1 1 row 1 1": 3, " row 1 1": 0, "row  1 1": 1, "row 1  1": 2,
            "1 1": 0, "Row 1 1": 0, "ROW 1 1": 0, "rows 1 1": 0, "ro 1 1": 0, "row1 1": 0, "row\t1 1": 0,
            "row -1 1": 1, "row +1 1": 1, "row x 1": 1, "row x y z": 1, "row 1 y z": 2, "row 1 x": 2, "row 1.0 1": 1,
            "row 1,1": 1, "row 100 1": 1, "row 1 100": 2, "row 000 1": 1, "row 1_0 1": 1, "row 1\t1": 1,
            "row 1 1\t": 2, "row 1 1\r": 2, "row 1 \t1": 2, "row 1\u00a01": 1, "row \u0661 1": 1, "row \u00b2 1": 1,
            "row 1 \uff11": 2, "row 1 1 \u0661": 3, "row 1x 1": 1, "row x1 1": 1, "row 1 0x": 2, "\ufeffrow 1 1": 0,
            "row 1 1\x0brow 1 1": 2, "row 1 1\u2028row 1 1": 2, "row True 1": 1, "x": 0, "row row row": 1,
        }
        for text, word in wrong.items():
            self.assert_wrong(text, 0, word)

    def test_leading_zeros(self):
        for zeros in ("00", "01", "09", "000", "010", "0_"):
            self.assert_wrong(f"row {zeros} 1", 0, 1)
            self.assert_wrong(f"row 1 {zeros}", 0, 2)
        self.assertEqual(parse_timetable("row 0 0").rows, ((0, 0),))

    def test_the_empty_text_is_one_empty_row(self):
        self.assert_wrong("", 0, 0)

    def test_empty_rows(self):
        self.assert_wrong("\n", 0, 0)
        self.assert_wrong("\nrow 1 1", 0, 0)
        self.assert_wrong("row 1 1\n", 1, 0)
        self.assert_wrong("row 1 1\n\nrow 1 1", 1, 0)
        self.assert_wrong("row 1 1\n ", 1, 0)
        self.assert_wrong("row 1 1\r\nrow 1 1", 0, 2)

    def test_empty_words(self):
        self.assert_wrong("row 1 1\n row 1 1", 1, 0)
        self.assert_wrong("row 1 1\nrow  1 1", 1, 1)
        self.assert_wrong("row 1 1\nrow 1  1", 1, 2)
        self.assert_wrong("row 1 1\nrow 1 1 ", 1, 3)
        self.assert_wrong("row 1 1 \nrow 1 1", 0, 3)

    def test_the_first_wrong_row_counts(self):
        self.assert_wrong("row 1 1\nrow 1\nrow", 1, 2)
        self.assert_wrong("row 1 1\nrow 1 1\nrow 1 1 1\nx", 2, 3)
        self.assert_wrong("\n".join(["row 1 1"] * 23 + ["row a b"]), 23, 1)

    def test_the_form_of_all_rows_comes_ahead_of_their_numbers(self):
        self.assert_wrong("row 10 1\nrow 1 01", 1, 2)
        self.assert_wrong("row 99 99\nrow 1 1\n", 2, 0)
        self.assert_wrong("\n".join(["row 1 1"] * 30 + ["row 1"]), 30, 2)
        self.assert_wrong("\n".join(["row 1 1"] * 24) + "\n", 24, 0)

    def test_what_is_no_text(self):
        for text in (None, True, 0, 1, (), ("row 1 1",), [], ["row 1 1"], 10 ** 18):
            self.assert_wrong(text, 0, 0)

    def assert_no_timetable(self, text, index):
        with self.assertRaises(InvalidTimetable) as caught:
            parse_timetable(text)
        self.assertEqual(caught.exception.index, index)

    def test_numbers_that_are_too_great(self):
        for word in ("10", "11", "20", "99"):
            self.assert_no_timetable(f"row {word} 1", 0)
            self.assert_no_timetable(f"row 1 1\nrow 1 {word}\nrow 10 10", 1)

    def test_a_25th_row(self):
        self.assert_no_timetable("\n".join(["row 1 1"] * 25), 24)
        self.assert_no_timetable("\n".join(["row 1 1"] * 40), 24)
        self.assert_no_timetable("\n".join(["row 1 1"] * 20 + ["row 10 1"] * 20), 20)


class Charts(unittest.TestCase):
    def plain_row(self, tick, height):
        """A row made figure by figure."""
        figures = str(height)
        groups = []
        while figures:
            groups.insert(0, figures[-3:])
            figures = figures[:-3]
        marks = "".join(["*" if place < height else "." for place in range(20)])
        return str(tick).rjust(19) + " " + ",".join(groups).rjust(20) + " " + marks

    def test_rows_of_mixed_timetables(self):
        for rows in mixed_rows(48):
            heights = PlainPile(rows, 160).heights
            for first, last in ((0, 0), (0, 99), (3, 20), (60, 159)):
                expected = [self.plain_row(tick, heights[tick]) for tick in range(first, last + 1)]
                self.assertEqual(chart(Timetable(*rows), first, last), "\n".join(expected))

    def test_one_tick(self):
        blanks = " " * 18
        self.assertEqual(chart(Timetable((0, 1)), 0, 0), blanks + "0 " + blanks + " 0 " + "." * 20)
        self.assertEqual(chart(Timetable((1, 0)), 8, 8), blanks + "8 " + blanks + " 9 " + "*" * 9 + "." * 11)

    def test_two_ticks(self):
        expected = " " * 18 + "0" + " " * 20 + "3 ***" + "." * 17 + "\n" + " " * 18 + "1" + " " * 20 + "2 **" + "." * 18
        self.assertEqual(chart(Timetable((3, 0), (0, 1)), 0, 1), expected)

    def test_a_hundred_ticks(self):
        text = chart(Timetable((1, 0)), 1000, 1099)
        self.assertEqual(len(text.split("\n")), 100)
        self.assertEqual(text, "\n".join([self.plain_row(tick, tick + 1) for tick in range(1000, 1100)]))
        self.assertEqual({len(row) for row in text.split("\n")}, {61})

    def test_more_than_20_letters(self):
        rows = chart(Timetable((1, 0)), 17, 21).split("\n")
        marks = ["*" * 18 + "..", "*" * 19 + ".", "*" * 20, "*" * 20, "*" * 20]
        self.assertEqual([row[41:] for row in rows], marks)
        self.assertEqual([row[20:40].strip() for row in rows], ["18", "19", "20", "21", "22"])

    def test_commas_between_thousands(self):
        rows = chart(Timetable((1, 0)), 997, 1000).split("\n")
        self.assertEqual([row[20:40].strip() for row in rows], ["998", "999", "1,000", "1,001"])
        row = chart(Timetable((1, 0)), 1234566, 1234566)
        self.assertEqual(row, "            1234566            1,234,567 " + "*" * 20)

    def test_near_the_last_tick(self):
        timetable = Timetable((2, 1), (0, 1), (1, 1))
        text = chart(timetable, LAST - 99, LAST)
        expected = [self.plain_row(tick, (1, 0, 0)[tick % 3]) for tick in range(LAST - 99, LAST + 1)]
        self.assertEqual(text, "\n".join(expected))
        self.assertEqual(chart(timetable, LAST, LAST), self.plain_row(LAST, 0))
        self.assertEqual(text.split("\n")[-1], "1000000000000000000                    0 " + "." * 20)

    def test_wide_numbers_are_not_cut(self):
        row = chart(Timetable((9, 0)), LAST, LAST)
        self.assertEqual(row, "1000000000000000000 9,000,000,000,000,000,009 " + "*" * 20)
        row = chart(Timetable((1, 0)), 99999999999999998, 99999999999999998)
        self.assertEqual(row, "  99999999999999998 99,999,999,999,999,999 " + "*" * 20)
        row = chart(Timetable((1, 0)), 999999999999998, 999999999999998)
        self.assertEqual(row, "    999999999999998  999,999,999,999,999 " + "*" * 20)

    def test_first_ticks_out_of_range(self):
        for first in OUT_OF_RANGE + NO_NUMBERS:
            for last in (0, first, LAST):
                with self.assertRaises(InvalidNumber):
                    chart(Timetable((1, 0)), first, last)

    def test_last_ticks_out_of_range(self):
        timetable = Timetable((1, 0))
        for last in OUT_OF_RANGE + NO_NUMBERS:
            with self.assertRaises(InvalidNumber):
                chart(timetable, 0, last)
        wrong = [(0, 100), (5, 4), (5, 105), (1, 0), (LAST, LAST - 1), (LAST, LAST + 1), (LAST - 3, LAST + 1)]
        for first, last in wrong:
            with self.assertRaises(InvalidNumber):
                chart(timetable, first, last)

    def test_timetables_without_letters_are_in_order(self):
        self.assertEqual(chart(Timetable((0, 0)), 7, 8).count("."), 40)


if __name__ == "__main__":
    unittest.main()
