import unittest

from tests.plain_pile import PlainPile, mixed_rows, small_rows
from tests.wrong_values import LAST, NO_NUMBERS
from topletter.errors import InvalidNumber, InvalidTimetable
from topletter.timetables import Timetable

NO_ROWS = (
    True,
    None,
    "",
    "11",
    3,
    (),
    (1,),
    (1, 1, 1),
    [],
    [1, 1],
    (10, 0),
    (0, 10),
    (-1, 0),
    (0, -1),
    (True, 1),
    (1, True),
    (False, 1),
    (1, False),
    ("1", 1),
    (1, "1"),
    (None, 1),
    (1, None),
    ((1,), 1),
    (1, [1]),
    (10 ** 5000, 1),
)


class InvalidCase(unittest.TestCase):
    def assert_invalid(self, index, make, *arguments):
        with self.assertRaises(InvalidTimetable) as caught:
            make(*arguments)
        self.assertEqual(caught.exception.index, index)


class MakingTimetables(InvalidCase):
    def test_rows_are_the_tuple_of_all_rows(self):
        self.assertEqual(Timetable((2, 1), (0, 1), (1, 1)).rows, ((2, 1), (0, 1), (1, 1)))

    def test_one_row_with_least_and_greatest_numbers(self):
        for row in ((0, 0), (9, 9), (0, 9), (9, 0)):
            self.assertEqual(Timetable(row).rows, (row,))

    def test_24_rows(self):
        rows = tuple((k % 10, 9 - k % 10) for k in range(24))
        self.assertEqual(Timetable(*rows).rows, rows)
        self.assertEqual(len(Timetable(*rows)), 24)

    def test_no_arguments(self):
        self.assert_invalid(0, Timetable)

    def test_a_25th_argument(self):
        self.assert_invalid(24, Timetable, *[(1, 1)] * 25)
        self.assert_invalid(24, Timetable, *[(1, 1)] * 40)
        self.assert_invalid(24, Timetable, *[(1, 1)] * 24, None)

    def test_a_wrong_row_ahead_of_the_25th_argument_comes_first(self):
        self.assert_invalid(23, Timetable, *[(1, 1)] * 23, (1, 10), *[(1, 1)] * 10)

    def test_what_is_no_row(self):
        for value in NO_ROWS:
            with self.subTest(value=str(type(value))):
                self.assert_invalid(0, Timetable, value)
                self.assert_invalid(2, Timetable, (1, 1), (0, 0), value, (1, 1), None)

    def test_letters_per_round(self):
        self.assertEqual(Timetable((2, 1), (0, 5), (9, 0)).letters_per_round, 11)
        self.assertEqual(Timetable((0, 5)).letters_per_round, 0)
        self.assertEqual(Timetable(*[(9, 0)] * 24).letters_per_round, 216)

    def test_properties_cannot_be_assigned(self):
        timetable = Timetable((2, 1), (0, 1))
        for name in ("rows", "letters_per_round", "growth"):
            with self.assertRaises(AttributeError):
                setattr(timetable, name, 1)
        with self.assertRaises(TypeError):
            timetable[0] = (1, 1)
        self.assertEqual(timetable.rows, ((2, 1), (0, 1)))

    def test_operations_leave_the_timetable_as_it_is(self):
        timetable = Timetable((2, 1), (0, 1))
        self.assertIsNot(timetable + timetable, timetable)
        timetable.with_answers(0, 1)
        self.assertEqual(timetable.with_answers(), timetable)
        self.assertEqual(timetable.rows, ((2, 1), (0, 1)))

    def test_a_raising_call_changes_nothing(self):
        timetable = Timetable((2, 9), (0, 1))
        for call in (
            lambda: timetable.with_answers(1, 0),
            lambda: timetable.with_answers(1, 2),
            lambda: timetable + timetable,
            lambda: timetable[-1],
            lambda: timetable(-1),
            lambda: list(timetable),
        ):
            with self.assertRaises((InvalidNumber, InvalidTimetable, TypeError)):
                call()
            self.assertEqual(timetable.rows, ((2, 9), (0, 1)))

    def test_the_list_of_rows_given_with_a_star_is_not_kept(self):
        rows = [(2, 1), (0, 1)]
        timetable = Timetable(*rows)
        rows.append((1, 1))
        self.assertEqual(timetable.rows, ((2, 1), (0, 1)))


class SimpleTimetables(InvalidCase):
    def test_figures_are_rows(self):
        self.assertEqual(Timetable.simple("209", "118").rows, ((2, 1), (0, 1), (9, 8)))
        self.assertEqual(Timetable.simple("0", "0").rows, ((0, 0),))

    def test_all_figures_and_24_of_them(self):
        letters = "012345678901234567890123"
        answers = "987654321098765432109876"
        rows = tuple((int(one), int(other)) for one, other in zip(letters, answers))
        self.assertEqual(Timetable.simple(letters, answers).rows, rows)

    def test_it_is_a_class_method(self):
        self.assertEqual(Timetable((1, 1)).simple("2", "3").rows, ((2, 3),))

    def test_empty_strings(self):
        self.assert_invalid(0, Timetable.simple, "", "")

    def test_more_than_24_figures(self):
        self.assert_invalid(24, Timetable.simple, "1" * 25, "1" * 25)
        self.assert_invalid(24, Timetable.simple, "1" * 100, "1" * 100)

    def test_strings_of_other_forms_make_no_rows(self):
        self.assert_invalid(1, Timetable.simple, "1a1", "111")
        self.assert_invalid(2, Timetable.simple, "111", "11 ")
        self.assert_invalid(0, Timetable.simple, "\u00b2", "1")
        self.assert_invalid(0, Timetable.simple, "\u0663", "1")
        self.assert_invalid(1, Timetable.simple, "111", "1")
        self.assert_invalid(0, Timetable.simple, "", "11")
        self.assert_invalid(24, Timetable.simple, "1" * 26, "1" * 30)

    def test_what_is_no_string(self):
        for value in (None, True, 1, (), ("1",), [], ["1"]):
            self.assert_invalid(0, Timetable.simple, value, "1")
            self.assert_invalid(0, Timetable.simple, "1", value)
            self.assert_invalid(0, Timetable.simple, value, value)


class RowsOfTicks(unittest.TestCase):
    def test_length(self):
        for many in range(1, 25):
            self.assertEqual(len(Timetable(*[(0, 0)] * many)), many)

    def test_rows_repeat(self):
        rows = [(k % 10, k % 7) for k in range(24)]
        for many in (1, 2, 7, 24):
            timetable = Timetable(*rows[:many])
            for tick in range(3 * many):
                self.assertEqual(timetable[tick], rows[tick % many])

    def test_last_tick(self):
        rows = [(k, 0) for k in range(7)]
        self.assertEqual(Timetable(*rows)[LAST], rows[LAST % 7])
        self.assertEqual(Timetable((3, 4))[LAST], (3, 4))

    def test_ticks_out_of_range(self):
        timetable = Timetable((2, 1), (0, 1))
        for tick in (-1, LAST + 1, -LAST, 10 ** 5000):
            with self.assertRaises(InvalidNumber):
                timetable[tick]

    def test_ticks_that_are_no_numbers(self):
        timetable = Timetable((2, 1), (0, 1))
        for tick in NO_NUMBERS:
            with self.subTest(tick=tick), self.assertRaises(InvalidNumber):
                timetable[tick]

    def test_truth(self):
        self.assertIs(bool(Timetable((0, 5))), False)
        self.assertIs(bool(Timetable((0, 0), (0, 9))), False)
        self.assertIs(bool(Timetable((0, 0), (1, 0))), True)
        self.assertIs(bool(Timetable((1, 9), (0, 0))), True)

    def test_timetables_are_not_walked(self):
        timetable = Timetable((2, 1), (0, 1))
        for walk in (
            iter,
            list,
            tuple,
            set,
            sorted,
            enumerate,
            lambda it: [row for row in it],
            lambda it: (2, 1) in it,
            lambda it: (0, *it),
            lambda it: zip(it, it),
        ):
            with self.assertRaises(TypeError):
                walk(timetable)
        with self.assertRaises(TypeError):
            _, _ = timetable


class SumsOfTimetables(InvalidCase):
    def test_same_number_of_rows(self):
        self.assertEqual((Timetable((2, 1), (0, 4)) + Timetable((3, 5), (9, 0))).rows, ((5, 6), (9, 4)))

    def test_least_common_multiple_of_rows(self):
        one = Timetable((0, 1), (1, 2), (2, 3), (3, 4))
        other = Timetable((0, 0), (1, 0), (0, 2), (5, 0), (1, 1), (0, 5))
        both = one + other
        self.assertEqual(len(both), 12)
        self.assertEqual(both, other + one)
        for tick in range(30):
            self.assertEqual(both[tick], (one[tick][0] + other[tick][0], one[tick][1] + other[tick][1]))

    def test_equal_rows_are_not_shortened(self):
        self.assertEqual((Timetable((1, 1), (1, 1)) + Timetable((0, 0))).rows, ((1, 1), (1, 1)))

    def test_24_rows(self):
        self.assertEqual(len(Timetable(*[(0, 1)] * 8) + Timetable(*[(1, 0)] * 3)), 24)

    def test_a_25th_row(self):
        self.assert_invalid(24, lambda: Timetable(*[(0, 1)] * 5) + Timetable(*[(1, 0)] * 6))
        self.assert_invalid(24, lambda: Timetable(*[(0, 1)] * 24) + Timetable(*[(1, 0)] * 23))

    def test_more_than_nine(self):
        self.assert_invalid(1, lambda: Timetable((9, 0), (9, 0)) + Timetable((0, 0), (1, 0)))
        self.assert_invalid(0, lambda: Timetable((0, 5), (9, 0)) + Timetable((0, 5), (1, 0)))
        self.assert_invalid(5, lambda: Timetable((0, 0), (5, 0)) + Timetable((0, 0), (0, 0), (5, 0)))

    def test_the_first_wrong_row_decides(self):
        one = Timetable(*[(0, 0)] * 4, (9, 0))
        self.assert_invalid(4, lambda: one + Timetable(*[(0, 0)] * 4, (1, 0), (0, 0)))
        # Rows behind the 24th one are not looked at: the first too great sum stands in row 29.
        self.assert_invalid(24, lambda: one + Timetable(*[(0, 0)] * 5, (1, 0)))

    def test_only_timetables_are_added(self):
        for other in (1, None, ((1, 1),), "row"):
            with self.assertRaises(TypeError):
                Timetable((1, 1)) + other


class EqualTimetables(unittest.TestCase):
    def test_same_rows(self):
        self.assertEqual(Timetable((2, 1), (0, 1)), Timetable((2, 1), (0, 1)))
        self.assertIs(Timetable((2, 1)) == Timetable((2, 1)), True)
        self.assertIs(Timetable((2, 1)) != Timetable((2, 1)), False)

    def test_same_rows_for_all_ticks(self):
        self.assertEqual(Timetable((1, 1)), Timetable((1, 1), (1, 1)))
        self.assertEqual(Timetable(*[(2, 1), (0, 1)] * 2), Timetable(*[(2, 1), (0, 1)] * 3))
        self.assertEqual(Timetable(*[(1, 1)] * 23), Timetable(*[(1, 1)] * 24))

    def test_other_rows(self):
        self.assertNotEqual(Timetable((2, 1), (0, 1)), Timetable((0, 1), (2, 1)))
        self.assertNotEqual(Timetable((2, 1)), Timetable((1, 2)))
        self.assertNotEqual(Timetable((2, 1)), Timetable((2, 1), (2, 2)))
        self.assertNotEqual(Timetable((1, 1), (2, 2)), Timetable((1, 1), (2, 2), (1, 1)))
        self.assertNotEqual(Timetable(*[(1, 1)] * 23), Timetable(*[(1, 1)] * 23, (1, 0)))
        self.assertIs(Timetable((2, 1)) == Timetable((2, 2)), False)

    def test_anything_else(self):
        timetable = Timetable((1, 1))
        for other in (None, 1, True, "11", (1, 1), ((1, 1),), [(1, 1)], timetable.rows):
            self.assertIs(timetable == other, False)
            self.assertIs(other == timetable, False)
            self.assertIs(timetable != other, True)

    def test_small_timetables_against_tick_by_tick(self):
        made = [Timetable(*rows) for rows in small_rows()[:120]]
        for one in made:
            for other in made:
                same = all(one[tick] == other[tick] for tick in range(6))
                self.assertIs(one == other, same)


class FurtherAnswers(InvalidCase):
    def test_one_answer_more_for_each_tick(self):
        timetable = Timetable((2, 1), (0, 1), (1, 1))
        self.assertEqual(timetable.with_answers(1).rows, ((2, 1), (0, 2), (1, 1)))
        self.assertEqual(timetable.with_answers(2, 0).rows, ((2, 2), (0, 1), (1, 2)))

    def test_ticks_told_more_than_once(self):
        timetable = Timetable((2, 1), (0, 1), (1, 1))
        self.assertEqual(timetable.with_answers(0, 2, 0, 0, 2).rows, ((2, 4), (0, 1), (1, 3)))

    def test_up_to_nine_answers(self):
        self.assertEqual(Timetable((0, 0)).with_answers(*[0] * 9).rows, ((0, 9),))

    def test_no_ticks(self):
        timetable = Timetable((2, 1), (0, 1))
        self.assertEqual(timetable.with_answers().rows, timetable.rows)

    def test_first_and_last_tick_of_24(self):
        more = Timetable(*[(1, 0)] * 24).with_answers(0, 23)
        self.assertEqual(more.rows, ((1, 1),) + ((1, 0),) * 22 + ((1, 1),))

    def test_ticks_out_of_the_round(self):
        timetable = Timetable((2, 1), (0, 1), (1, 1))
        for tick in (-1, 3, 4, LAST, 10 ** 5000):
            with self.assertRaises(InvalidNumber):
                timetable.with_answers(tick)
            with self.assertRaises(InvalidNumber):
                timetable.with_answers(0, tick, 1)

    def test_ticks_that_are_no_numbers(self):
        for tick in NO_NUMBERS:
            with self.subTest(tick=tick), self.assertRaises(InvalidNumber):
                Timetable((2, 1), (0, 1)).with_answers(0, tick)

    def test_more_than_nine_answers(self):
        timetable = Timetable((2, 8), (0, 9), (1, 9))
        self.assert_invalid(1, timetable.with_answers, 1)
        self.assert_invalid(0, timetable.with_answers, 0, 0)
        # The first row in the order of rows, not of the arguments.
        self.assert_invalid(1, timetable.with_answers, 2, 1)
        self.assert_invalid(0, timetable.with_answers, 2, 0, 1, 0)

    def test_all_ticks_are_looked_at_first(self):
        with self.assertRaises(InvalidNumber):
            Timetable((2, 9), (0, 9)).with_answers(0, 1, 2)
        with self.assertRaises(InvalidNumber):
            Timetable((2, 9), (0, 9)).with_answers(0, 1, True)


class HeightsAndGrowth(unittest.TestCase):
    def test_growth(self):
        self.assertEqual(Timetable((2, 1)).growth, 1)
        self.assertEqual(Timetable((9, 0), (9, 3)).growth, 15)
        self.assertEqual(Timetable((1, 1)).growth, 0)
        self.assertEqual(Timetable((0, 0)).growth, 0)
        self.assertEqual(Timetable((0, 5)).growth, 0)
        self.assertEqual(Timetable((1, 9), (9, 2)).growth, 0)
        self.assertEqual(Timetable(*[(9, 0)] * 24).growth, 216)

    def test_a_pile_can_end_its_round_with_letters_and_not_grow(self):
        timetable = Timetable((0, 5), (3, 1))
        self.assertEqual([timetable(tick) for tick in range(5)], [0, 2, 0, 2, 0])
        self.assertEqual(timetable.growth, 0)
        self.assertEqual(timetable(LAST - 1), 2)
        self.assertEqual(timetable(LAST), 0)

    def test_idle_answers_of_the_first_round_are_not_made_up_for(self):
        timetable = Timetable((0, 5), (6, 0))
        self.assertEqual([timetable(tick) for tick in range(6)], [0, 6, 1, 7, 2, 8])
        self.assertEqual(timetable.growth, 1)

    def test_first_and_last_tick(self):
        self.assertEqual(Timetable((9, 4))(0), 5)
        self.assertEqual(Timetable((9, 0))(LAST), 9 * LAST + 9)
        self.assertEqual(Timetable((2, 1), (0, 1))(LAST), 1)
        self.assertEqual(Timetable((0, 5), (6, 0))(LAST), LAST // 2)
        self.assertEqual(Timetable((0, 3))(LAST), 0)

    def test_small_timetables_tick_by_tick(self):
        for rows in small_rows():
            timetable = Timetable(*rows)
            heights = PlainPile(rows, 12).heights
            self.assertEqual([timetable(tick) for tick in range(12)], heights, rows)

    def test_mixed_timetables_tick_by_tick(self):
        for rows in mixed_rows(72):
            timetable = Timetable(*rows)
            ticks = 20 * len(rows)
            heights = PlainPile(rows, ticks).heights
            self.assertEqual([timetable(tick) for tick in range(ticks)], heights, rows)
            self.assertEqual(heights[-1] - heights[-1 - len(rows)], timetable.growth, rows)

    def test_ticks_out_of_range(self):
        for tick in (-1, LAST + 1, 10 ** 5000):
            with self.assertRaises(InvalidNumber):
                Timetable((2, 1))(tick)

    def test_ticks_that_are_no_numbers(self):
        for tick in NO_NUMBERS:
            with self.subTest(tick=tick), self.assertRaises(InvalidNumber):
                Timetable((2, 1))(tick)


if __name__ == "__main__":
    unittest.main()
