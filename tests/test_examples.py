"""The examples of the document's interface, each with the value or the exception written there."""

import unittest

from topletter.chains import one_less, one_more
from topletter.errors import InvalidNumber, InvalidTimetable, NoAnswer, NoLetters
from topletter.letters import answer_tick, answered_in, arrival, longest_wait, never_answered, top_letters, wait
from topletter.orders import bottom_answer, longest_bottom_wait, total_waiting
from topletter.planning import fewest_answers, first_late, first_unlike
from topletter.timetables import Timetable


class Examples(unittest.TestCase):
    def setUp(self):
        self.timetable = Timetable((2, 1), (0, 1), (1, 1))

    def assert_same(self, found, expected):
        """Equal, and of the same kinds: 0 is not False."""
        self.assertEqual(repr(found), repr(expected))

    def test_rows_and_numbers(self):
        timetable = self.timetable
        found = [len(timetable), timetable[4], timetable.letters_per_round, timetable.growth]
        self.assert_same(found, [3, (0, 1), 3, 0])

    def test_heights(self):
        timetable = self.timetable
        self.assert_same([timetable(0), timetable(1), timetable(2), timetable(3)], [1, 0, 0, 1])

    def test_sum(self):
        other = self.timetable + Timetable((1, 0))
        found = [other.rows, other.growth, bool(Timetable((0, 5)))]
        self.assert_same(found, [((3, 1), (1, 1), (2, 1)), 3, False])

    def test_invalid_row(self):
        with self.assertRaises(InvalidTimetable) as caught:
            Timetable((1, 1), (1, 10))
        self.assert_same(caught.exception.index, 1)

    def test_simple(self):
        self.assert_same(Timetable.simple("201", "111") == self.timetable, True)

    def test_with_answers(self):
        self.assert_same(self.timetable.with_answers(0, 0).rows[0], (2, 3))

    def test_with_answers_out_of_the_round(self):
        with self.assertRaises(InvalidNumber):
            self.timetable.with_answers(3)

    def test_single_letters(self):
        timetable = self.timetable
        found = [arrival(timetable, 4), answer_tick(timetable, 4), answer_tick(timetable, 3), wait(timetable, 3)]
        self.assert_same(found, [3, 3, 4, 1])

    def test_wait_of_no_letter(self):
        with self.assertRaises(InvalidNumber):
            wait(self.timetable, -1)

    def test_arrival_without_letters(self):
        with self.assertRaises(NoLetters):
            arrival(Timetable((0, 1)), 0)

    def test_all_letters(self):
        timetable = self.timetable
        found = [never_answered(timetable), longest_wait(timetable)]
        found += [never_answered(Timetable((2, 1))), longest_wait(Timetable((2, 1)))]
        self.assert_same(found, [[], 1, [0], None])

    def test_letters_of_a_tick(self):
        timetable = self.timetable
        self.assert_same([list(answered_in(timetable, 1)), list(top_letters(timetable, 3, 5))], [[0], [3]])

    def test_letters_of_a_far_tick(self):
        found = list(top_letters(Timetable((2, 1)), 10 ** 17, 3))
        self.assert_same(found, [200000000000000000, 199999999999999998, 199999999999999996])

    def test_one_more(self):
        self.assert_same(list(one_more(self.timetable, 0)), [(None, None, 0), (1, 0, 1), (0, 1, None)])

    def test_one_less_of_an_idle_answer(self):
        self.assert_same(list(one_less(Timetable((1, 2), (0, 1)), 1)), [])

    def test_one_less(self):
        self.assert_same(list(one_less(Timetable((2, 1), (0, 1), (0, 1)), 0)), [(1, 0, 1), (0, 1, 2)])

    def test_one_less_without_an_answer(self):
        with self.assertRaises(NoAnswer):
            list(one_less(Timetable((2, 0), (0, 1)), 2))

    def test_bottom_order(self):
        timetable = self.timetable
        found = [bottom_answer(timetable, 3), bottom_answer(timetable, 4), longest_bottom_wait(timetable)]
        self.assert_same(found, [3, 4, 1])

    def test_bottom_order_of_a_growing_pile(self):
        self.assert_same([bottom_answer(Timetable((2, 1)), 10), longest_bottom_wait(Timetable((2, 1)))], [10, None])

    def test_total_waiting(self):
        self.assert_same([total_waiting(self.timetable, 9), total_waiting(Timetable((2, 1)), 10)], [3, 55])

    def test_planning(self):
        timetable = self.timetable
        found = [fewest_answers(timetable, 0, 4), first_late(timetable, 0), first_late(timetable, 0, 0)]
        self.assert_same(found, [[0], 0, None])

    def test_planning_with_five_answers(self):
        with self.assertRaises(InvalidNumber):
            fewest_answers(self.timetable, 0, 5)

    def test_first_unlike(self):
        timetable = self.timetable
        found = [first_unlike(timetable, timetable.with_answers(0)), first_unlike(timetable, timetable.with_answers(1))]
        self.assert_same(found, [0, None])


if __name__ == "__main__":
    unittest.main()
