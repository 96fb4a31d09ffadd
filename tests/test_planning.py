import itertools
import math
import unittest

from tests.plain_pile import PlainPile, mixed_rows, small_rows, with_letters
from tests.wrong_values import LAST, NO_NUMBERS, OUT_OF_RANGE
from topletter import planning
from topletter.errors import InvalidNumber, InvalidTimetable, NoLetters
from topletter.planning import fewest_answers, first_late, first_unlike
from topletter.timetables import Timetable


def more_answers(rows, ticks):
    return [(come, answers + list(ticks).count(tick)) for tick, (come, answers) in enumerate(rows)]


def plain_waits(rows):
    """The waits of the letters of the first round, None for those that are never answered."""
    return PlainPile(rows, 4 * len(rows)).waits(range(sum(come for come, _ in rows)))


def first_longer(waits, most):
    for letter, passed in enumerate(waits):
        if passed is None or passed > most:
            return letter
    return None


def all_lists(rows, longest):
    """All lists of ticks that are allowed, shorter ones first, then in list order, each with its waits."""
    found = []
    for many in range(longest + 1):
        for ticks in itertools.combinations_with_replacement(range(len(rows)), many):
            more = more_answers(rows, ticks)
            if max(answers for _, answers in more) <= 9:
                found.append((list(ticks), plain_waits(more)))
    return found


def full_rows():
    """Some of the mixed rows lists with few rows, with so many answers that some can have no further one."""
    found = []
    for number, rows in enumerate(mixed_rows(144)):
        if len(rows) <= 5:
            found.append([(min(9, come + 6), min(9, answers + 7 - number % 2)) for come, answers in rows])
    return found


class FewestAnswers(unittest.TestCase):
    def check_rows(self, rows, longest):
        timetable = Timetable(*rows)
        lists = all_lists(rows, longest)
        for most in list(range(len(rows) + 1)) + [LAST]:
            enough = [ticks for ticks, waits in lists if first_longer(waits, most) is None]
            for limit in range(longest + 1):
                expected = enough[0] if enough and len(enough[0]) <= limit else None
                self.assertEqual(fewest_answers(timetable, most, limit), expected, (rows, most, limit))

    def test_small_timetables_with_all_lists(self):
        for rows in with_letters(small_rows()[::2]):
            self.check_rows(rows, 4)

    def test_mixed_timetables_with_all_lists(self):
        for rows in with_letters(mixed_rows(96)):
            if len(rows) <= 6:
                self.check_rows(rows, 3)

    def test_full_timetables_with_all_lists(self):
        for rows in full_rows():
            self.check_rows(rows, 3)

    def test_24_rows_with_all_lists(self):
        rows = [(1, 0), (0, 1), (2, 1), (0, 0), (1, 1), (0, 1)] * 3 + [(3, 1), (0, 0), (1, 0), (0, 2), (1, 1), (0, 0)]
        self.check_rows(rows, 1)

    def test_none_are_needed(self):
        for most in (0, 1, LAST):
            for limit in range(5):
                self.assertEqual(fewest_answers(Timetable((1, 1), (0, 0)), most, limit), [])

    def test_no_answers_allowed(self):
        timetable = Timetable((2, 1), (0, 1))
        self.assertEqual(fewest_answers(timetable, 1, 0), [])
        self.assertIsNone(fewest_answers(timetable, 0, 0))
        self.assertEqual(fewest_answers(timetable, 0, 1), [0])

    def test_four_answers_and_more(self):
        self.assertEqual(fewest_answers(Timetable((4, 0)), 0, 4), [0, 0, 0, 0])
        self.assertIsNone(fewest_answers(Timetable((4, 0)), 0, 3))
        self.assertIsNone(fewest_answers(Timetable((5, 0)), 0, 4))
        self.assertIsNone(fewest_answers(Timetable((5, 0)), LAST, 4))
        rows = [(1, 0)] * 4 + [(0, 4)]
        self.assertEqual(fewest_answers(Timetable(*rows), 0, 4), [0, 1, 2, 3])
        self.assertIsNone(fewest_answers(Timetable(*rows), 0, 3))

    def test_of_several_lists_the_first_one(self):
        timetable = Timetable((0, 0), (1, 0), (0, 0))
        self.assertEqual([fewest_answers(timetable, most, 4) for most in range(4)], [[1], [1], [0], [0]])
        timetable = Timetable((2, 0), (0, 0), (2, 2))
        self.assertEqual(fewest_answers(timetable, 1, 4), [0, 0])
        for ticks in ((0, 0), (0, 1), (1, 1)):
            self.assertIsNone(first_late(timetable, 1, *ticks))

    def test_the_shortest_list_comes_ahead_of_others_in_list_order(self):
        # [0, 2] is enough, too, and comes first in list order.
        timetable = Timetable((1, 0), (1, 1), (0, 0))
        self.assertIsNone(first_late(timetable, 1, 0, 2))
        self.assertEqual(fewest_answers(timetable, 1, 4), [0])
        timetable = Timetable((0, 0), (0, 0), (1, 0))
        self.assertIsNone(first_late(timetable, 0, 0, 2))
        self.assertEqual(fewest_answers(timetable, 0, 4), [2])

    def test_some_ticks_more_than_once(self):
        self.assertEqual(fewest_answers(Timetable((0, 0), (3, 1)), 0, 4), [1, 1])
        self.assertEqual(fewest_answers(Timetable((2, 0), (2, 1)), 0, 4), [0, 0, 1])

    def test_lists_with_more_than_nine_answers_are_left_out(self):
        # One answer more in tick 0 would be in time, but there are 9.
        self.assertEqual(fewest_answers(Timetable((9, 8), (1, 1)), 1, 4), [0])
        self.assertEqual(fewest_answers(Timetable((9, 9), (1, 0)), 1, 4), [1])
        self.assertEqual(fewest_answers(Timetable((9, 9), (1, 0)), LAST, 4), [1])
        self.assertEqual(fewest_answers(Timetable((9, 8), (2, 0)), LAST, 4), [0, 1, 1])

    def test_waits_of_no_tick_and_of_most(self):
        timetable = Timetable((1, 0), (0, 0), (0, 1))
        self.assertEqual([fewest_answers(timetable, most, 4) for most in (0, 1, 2, LAST)], [[0], [0], [], []])
        # Letters that are never answered wait longer than any number of ticks.
        self.assertEqual(fewest_answers(Timetable((2, 1), (0, 0)), LAST, 4), [0])
        self.assertIsNone(fewest_answers(Timetable((2, 1), (0, 0)), LAST, 0))

    def test_24_rows_and_four_answers(self):
        rows = [(1, 0)] * 12 + [(0, 1)] * 12
        # The first letter waits 23 ticks, the twelfth one 1; each further answer shortens the waits below it.
        for most in (23, 21, 19, 17, 15):
            found = fewest_answers(Timetable(*rows), most, 4)
            self.assertEqual(len(found), (23 - most + 1) // 2)
            self.assertIsNone(first_late(Timetable(*rows), most, *found))
        self.assertIsNone(fewest_answers(Timetable(*rows), 0, 4))

    def test_the_list_may_be_modified(self):
        timetable = Timetable((2, 1), (0, 1), (1, 1))
        fewest_answers(timetable, 0, 4).append(5)
        fewest_answers(timetable, 1, 4).append(5)
        self.assertEqual(fewest_answers(timetable, 0, 4), [0])
        self.assertEqual(fewest_answers(timetable, 1, 4), [])

    def test_no_letters_is_raised_first(self):
        for wrong in (0, 5) + OUT_OF_RANGE + NO_NUMBERS:
            with self.assertRaises(NoLetters):
                fewest_answers(Timetable((0, 1)), wrong, 4)
            with self.assertRaises(NoLetters):
                fewest_answers(Timetable((0, 1)), 0, wrong)

    def test_wrong_waits(self):
        for most in OUT_OF_RANGE + NO_NUMBERS:
            with self.assertRaises(InvalidNumber):
                fewest_answers(Timetable((2, 1)), most, 4)

    def test_wrong_limits(self):
        for timetable in (Timetable((2, 1)), Timetable((1, 1)), Timetable((9, 0))):
            for limit in (5, 6, LAST) + OUT_OF_RANGE + NO_NUMBERS:
                with self.assertRaises(InvalidNumber):
                    fewest_answers(timetable, 0, limit)


class FirstLate(unittest.TestCase):
    def test_all_lists_against_the_plain_pile(self):
        for rows in with_letters(small_rows()[::4]) + full_rows()[::4]:
            timetable = Timetable(*rows)
            for ticks, waits in all_lists(rows, 2):
                for most in list(range(len(rows) + 1)) + [LAST]:
                    found = first_late(timetable, most, *ticks)
                    self.assertEqual(found, first_longer(waits, most), (rows, most, ticks))

    def test_mixed_timetables_against_the_plain_pile(self):
        for number, rows in enumerate(with_letters(mixed_rows(144))):
            ticks = [number % len(rows), number // 3 % len(rows)]
            more = more_answers(rows, ticks)
            if max(answers for _, answers in more) <= 9:
                waits = plain_waits(more)
                for most in range(len(rows) + 1):
                    found = first_late(Timetable(*rows), most, *ticks)
                    self.assertEqual(found, first_longer(waits, most), (rows, most, ticks))

    def test_no_shorter_list_is_enough(self):
        for rows in with_letters(small_rows()[::10]):
            timetable = Timetable(*rows)
            found = fewest_answers(timetable, 1, 4)
            if found:
                self.assertIsNone(first_late(timetable, 1, *found))
                for ticks in itertools.combinations_with_replacement(range(len(rows)), len(found) - 1):
                    self.assertIsNotNone(first_late(timetable, 1, *ticks))

    def test_of_letters_of_a_tick_the_first_late_one(self):
        timetable = Timetable((1, 1), (3, 2), (0, 0), (0, 1))
        self.assertEqual([first_late(timetable, most) for most in (0, 1, 2, 3)], [1, 1, None, None])

    def test_letters_that_are_never_answered_are_late(self):
        for most in (0, 1, 500, LAST):
            self.assertEqual(first_late(Timetable((1, 1), (2, 1)), most), 1)
            self.assertIsNone(first_late(Timetable((1, 1), (2, 1)), most, 1))

    def test_ticks_in_any_order_and_more_than_once(self):
        timetable = Timetable((3, 1), (2, 1))
        self.assertEqual([first_late(timetable, 0, *ticks) for ticks in ((), (0, 0), (0, 1, 1))], [0, 3, 0])
        self.assertIsNone(first_late(timetable, 0, 1, 0, 0))
        self.assertIsNone(first_late(timetable, 0, 0, 1, 0))

    def test_any_number_of_ticks(self):
        timetable = Timetable(*[(9, 0)] * 24)
        self.assertIsNone(first_late(timetable, 0, *list(range(24)) * 9))
        self.assertEqual(first_late(timetable, 0, *list(range(23)) * 9), 207)

    def test_no_letters_is_raised_first(self):
        for wrong in (0,) + OUT_OF_RANGE + NO_NUMBERS:
            with self.assertRaises(NoLetters):
                first_late(Timetable((0, 9)), wrong)
            with self.assertRaises(NoLetters):
                first_late(Timetable((0, 9)), 0, wrong)

    def test_wrong_waits_come_ahead_of_what_the_ticks_make(self):
        for most in OUT_OF_RANGE + NO_NUMBERS:
            with self.assertRaises(InvalidNumber):
                first_late(Timetable((2, 1)), most)
            with self.assertRaises(InvalidNumber):
                first_late(Timetable((2, 9)), most, 0)

    def test_wrong_ticks(self):
        for tick in (2, 24) + OUT_OF_RANGE + NO_NUMBERS:
            with self.assertRaises(InvalidNumber):
                first_late(Timetable((2, 1), (0, 1)), 0, tick)
            # All ticks are looked at ahead of the answers that they make.
            with self.assertRaises(InvalidNumber):
                first_late(Timetable((2, 9), (0, 1)), 0, 0, tick)

    def test_more_than_nine_answers(self):
        for rows, ticks, index in (
            ([(2, 1), (0, 9)], (1,), 1),
            ([(2, 8), (0, 9)], (1, 0, 0), 0),
            ([(2, 1), (0, 9), (1, 9)], (0, 2, 1), 1),
        ):
            with self.assertRaises(InvalidTimetable) as caught:
                first_late(Timetable(*rows), 5, *ticks)
            self.assertEqual(caught.exception.index, index)


class FirstUnlike(unittest.TestCase):
    def check_pair(self, one_rows, other_rows):
        one, other = Timetable(*one_rows), Timetable(*other_rows)
        again = math.lcm(len(one), len(other))
        # Letters of the first two common rounds; the others show when these are answered.
        piles = [PlainPile(rows, 4 * again) for rows in (one_rows, other_rows)]
        courses = []
        for pile in piles:
            courses.append([(came, pile.answers.get(k)) for k, came in enumerate(pile.arrivals) if came < 2 * again])
        pairs = enumerate(itertools.zip_longest(*courses))
        expected = next((letter for letter, (first, second) in pairs if first != second), None)
        self.assertEqual(first_unlike(one, other), expected, (one_rows, other_rows))

    def test_small_timetables_against_two_plain_piles(self):
        for one in small_rows()[::8]:
            for other in small_rows()[::11]:
                self.check_pair(one, other)

    def test_small_timetables_that_differ_in_one_row(self):
        rows = [(come, answers) for come in range(3) for answers in range(3)]
        for one in small_rows()[90::7]:
            for row in rows:
                self.check_pair(one, one[:-1] + [row])
                self.check_pair(one, one * 2 + one[:-1] + [row])

    def test_mixed_timetables_against_two_plain_piles(self):
        for rows in mixed_rows(96):
            for place in range(0, len(rows), 5):
                come, answers = rows[place]
                self.check_pair(rows, rows[:place] + [(come, (answers + 1) % 10)] + rows[place + 1:])
                self.check_pair(rows, rows[:place] + [((come + 1) % 10, answers)] + rows[place + 1:])

    def test_answered_at_different_ticks(self):
        self.assertEqual(first_unlike(Timetable((2, 1), (0, 1)), Timetable((2, 2), (0, 0))), 0)
        self.assertEqual(first_unlike(Timetable((1, 1), (1, 1)), Timetable((1, 1), (1, 0), (0, 0))), 1)

    def test_answered_by_one_only(self):
        self.assertEqual(first_unlike(Timetable((1, 1), (2, 2)), Timetable((1, 1), (2, 1))), 1)
        self.assertEqual(first_unlike(Timetable((1, 1), (2, 1)), Timetable((1, 1), (2, 2))), 1)

    def test_come_at_different_ticks(self):
        self.assertEqual(first_unlike(Timetable((3, 9)), Timetable((3, 9), (2, 9))), 5)
        self.assertEqual(first_unlike(Timetable((3, 9), (2, 9)), Timetable((3, 9))), 5)
        self.assertEqual(first_unlike(Timetable((1, 1), (0, 1)), Timetable((0, 1), (1, 1))), 0)

    def test_other_answers_can_be_alike(self):
        # Idle answers change nothing, and neither do letters that are answered anyway.
        self.assertIsNone(first_unlike(Timetable((1, 1)), Timetable((1, 9))))
        self.assertIsNone(first_unlike(Timetable((2, 1), (0, 1)), Timetable((2, 1), (0, 2))))
        self.assertIsNone(first_unlike(Timetable((1, 1)), Timetable((1, 1), (1, 2), (1, 3))))

    def test_equal_timetables_told_differently(self):
        rows = [(2, 1), (0, 1), (1, 0)]
        self.assertIsNone(first_unlike(Timetable(*rows), Timetable(*rows)))
        self.assertIsNone(first_unlike(Timetable(*rows * 2), Timetable(*rows * 3)))
        self.assertIsNone(first_unlike(Timetable(*[(9, 8)] * 23), Timetable(*[(9, 8)] * 24)))

    def test_they_part_in_the_last_row(self):
        rows = [(1, 1)] * 23
        self.assertEqual(first_unlike(Timetable(*rows), Timetable(*rows, (1, 0))), 23)
        self.assertEqual(first_unlike(Timetable(*rows), Timetable(*rows, (0, 0))), 23)

    def test_they_part_behind_the_first_round_of_both(self):
        # Ticks 0 to 44 have the same rows; in tick 45, three letters come by one, and two by the other.
        rows = [(2, 2)] * 22 + [(3, 3)]
        self.assertEqual(first_unlike(Timetable(*rows), Timetable(*rows, (2, 2))), 93)
        # In tick 45, one letter is not answered by one of them only.
        rows = [(2, 2)] * 22 + [(2, 1)]
        self.assertEqual(first_unlike(Timetable(*rows), Timetable(*rows, (2, 2))), 90)

    def test_no_letters(self):
        empty = Timetable((0, 1))
        self.assertIsNone(first_unlike(empty, empty))
        self.assertIsNone(first_unlike(empty, Timetable((0, 0), (0, 9))))
        self.assertEqual(first_unlike(empty, Timetable((0, 0), (0, 0), (1, 0))), 0)
        self.assertEqual(first_unlike(Timetable((0, 0), (9, 9)), empty), 0)


class Calls(unittest.TestCase):
    def test_equal_values_again(self):
        one, other = Timetable((2, 1), (0, 1), (1, 1)), Timetable((2, 1), (0, 1), (1, 0))
        for _ in range(2):
            self.assertEqual(fewest_answers(one, 0, 4), [0])
            self.assertEqual(first_late(one, 0), 0)
            self.assertEqual(first_unlike(one, other), 2)
        self.assertEqual(one.rows, ((2, 1), (0, 1), (1, 1)))
        self.assertEqual(other.rows, ((2, 1), (0, 1), (1, 0)))

    def test_ticks_given_with_a_star_are_not_changed(self):
        ticks = [1, 0, 0]
        first_late(Timetable((3, 1), (2, 1)), 0, *ticks)
        self.assertEqual(ticks, [1, 0, 0])

    def test_names_of_functions_and_arguments(self):
        timetable = Timetable((2, 1), (0, 1))
        self.assertEqual(fewest_answers(timetable=timetable, most=0, limit=4), [0])
        self.assertEqual(first_late(timetable=timetable, most=0), 0)
        self.assertIsNone(first_unlike(one=timetable, other=timetable))
        for name in ("fewest_answers", "first_late", "first_unlike"):
            self.assertEqual(getattr(planning, name).__module__, "topletter.planning")


if __name__ == "__main__":
    unittest.main()
