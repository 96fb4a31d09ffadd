import types
import unittest

from tests.plain_pile import PlainPile, mixed_rows, small_rows, with_letters
from tests.wrong_values import LAST, NO_NUMBERS, OUT_OF_RANGE
from topletter import letters
from topletter.errors import InvalidNumber, NoLetters
from topletter.letters import answer_tick, answered_in, arrival, longest_wait, never_answered, top_letters, wait
from topletter.timetables import Timetable

OF_A_LETTER = (arrival, answer_tick, wait)


class SingleLetters(unittest.TestCase):
    def check_rows(self, rows, rounds):
        """Compare all letters of the first rounds; ten more rounds show which are answered at all."""
        timetable = Timetable(*rows)
        pile = PlainPile(rows, (rounds + 10) * len(rows))
        for letter in range(rounds * timetable.letters_per_round):
            came = pile.arrivals[letter]
            answered = pile.answers.get(letter)
            self.assertEqual(arrival(timetable, letter), came, (rows, letter))
            self.assertEqual(answer_tick(timetable, letter), answered, (rows, letter))
            passed = None if answered is None else answered - came
            self.assertEqual(wait(timetable, letter), passed, (rows, letter))

    def test_small_timetables_letter_by_letter(self):
        for rows in with_letters(small_rows()):
            self.check_rows(rows, 3)

    def test_mixed_timetables_letter_by_letter(self):
        for rows in with_letters(mixed_rows(72)):
            self.check_rows(rows, 2)

    def test_a_letter_can_be_answered_in_its_own_tick(self):
        self.assertEqual(wait(Timetable((3, 1), (0, 2)), 2), 0)
        self.assertEqual([wait(Timetable((3, 9)), letter) for letter in range(3)], [0, 0, 0])

    def test_a_letter_can_wait_for_the_rest_of_a_round(self):
        rows = [(9, 0)] + [(0, 0)] * 22 + [(0, 9)]
        self.assertEqual([wait(Timetable(*rows), letter) for letter in range(9)], [23] * 9)
        rows = [(0, 9), (9, 0)] + [(0, 0)] * 22
        self.assertEqual([wait(Timetable(*rows), letter) for letter in range(9)], [23] * 9)

    def test_answers_go_to_the_letters_above_first(self):
        timetable = Timetable((9, 0), (9, 0), (0, 9), (0, 9), (0, 1))
        self.assertEqual([wait(timetable, letter) for letter in (0, 8, 9, 17)], [3, 3, 1, 1])
        timetable = Timetable((1, 0), (2, 1), (0, 1), (1, 1), (0, 1))
        self.assertEqual([wait(timetable, letter) for letter in range(4)], [4, 1, 0, 0])

    def test_no_letter_waits_longer_than_a_round(self):
        # One answer more than letters in a round, at all distances from the letters.
        for turn in range(24):
            rows = [(9, 0), (0, 1), (0, 9)] + [(1, 1)] * 21
            rows = rows[turn:] + rows[:turn]
            self.check_rows(rows, 2)

    def test_never_answered_letters(self):
        timetable = Timetable((2, 1))
        self.assertEqual([wait(timetable, letter) for letter in range(4)], [None, 0, None, 0])
        self.assertEqual([answer_tick(timetable, letter) for letter in range(4)], [None, 0, None, 1])

    def test_first_and_last_letter(self):
        timetable = Timetable((2, 1), (0, 1), (1, 1))
        self.assertEqual([function(timetable, 0) for function in OF_A_LETTER], [0, 1, 1])
        # 10 ** 18 is one more than a multiple of the three letters of a round.
        first = (LAST - 1) // 3 * 3
        self.assertEqual([function(timetable, LAST) for function in OF_A_LETTER], [first, first, 0])
        self.assertEqual([function(timetable, LAST - 1) for function in OF_A_LETTER], [first, first + 1, 1])

    def test_the_last_letter_can_come_after_the_last_tick(self):
        timetable = Timetable(*[(0, 0)] * 22, (1, 0), (0, 1))
        self.assertEqual(
            [function(timetable, LAST) for function in OF_A_LETTER], [24 * LAST + 22, 24 * LAST + 23, 1]
        )
        growing = Timetable(*[(0, 0)] * 23, (1, 0))
        self.assertEqual([function(growing, LAST) for function in OF_A_LETTER], [24 * LAST + 23, None, None])

    def test_letters_at_the_same_place_of_rounds_have_the_same_wait(self):
        for rows in with_letters(mixed_rows(24)):
            timetable = Timetable(*rows)
            per_round = timetable.letters_per_round
            far = (LAST // per_round - 1) * per_round
            for letter in range(per_round):
                self.assertEqual(wait(timetable, far + letter), wait(timetable, letter))
                self.assertEqual(
                    arrival(timetable, far + letter) - arrival(timetable, letter), far // per_round * len(rows)
                )

    def test_no_letters_is_raised_first(self):
        for function in OF_A_LETTER:
            for letter in (0, LAST) + OUT_OF_RANGE + NO_NUMBERS:
                with self.assertRaises(NoLetters):
                    function(Timetable((0, 1), (0, 0)), letter)

    def test_wrong_letters(self):
        for function in OF_A_LETTER:
            for timetable in (Timetable((2, 1)), Timetable((2, 1), (0, 1))):
                for letter in OUT_OF_RANGE + NO_NUMBERS:
                    with self.assertRaises(InvalidNumber):
                        function(timetable, letter)


class AllLetters(unittest.TestCase):
    def test_never_answered_of_the_first_round(self):
        self.assertEqual(never_answered(Timetable((2, 1), (3, 1))), [0, 2, 3])
        self.assertEqual(never_answered(Timetable((2, 0), (1, 2))), [0])
        self.assertEqual(never_answered(Timetable((0, 9), (1, 0), (1, 1), (1, 1))), [])
        self.assertEqual(never_answered(Timetable(*[(9, 0)] * 24)), list(range(216)))

    def test_answers_of_the_next_round_count(self):
        # The second letter comes after the answer of its round, and takes that of the next one.
        self.assertEqual(never_answered(Timetable((0, 1), (2, 0))), [0])
        self.assertEqual(longest_wait(Timetable((0, 2), (2, 0))), 1)

    def test_they_are_as_many_as_the_growth(self):
        for rows in with_letters(small_rows() + mixed_rows(48)):
            timetable = Timetable(*rows)
            self.assertEqual(len(never_answered(timetable)), timetable.growth, rows)

    def test_against_the_plain_pile(self):
        for rows in with_letters(small_rows() + mixed_rows(48)):
            timetable = Timetable(*rows)
            pile = PlainPile(rows, 12 * len(rows))
            first = range(timetable.letters_per_round)
            never = [letter for letter in first if letter not in pile.answers]
            self.assertEqual(never_answered(timetable), never, rows)
            longest = None if never else max(pile.answers[letter] - pile.arrivals[letter] for letter in first)
            self.assertEqual(longest_wait(timetable), longest, rows)

    def test_longest_wait(self):
        self.assertEqual(longest_wait(Timetable((1, 1))), 0)
        self.assertEqual(longest_wait(Timetable((1, 0), (0, 0), (0, 1))), 2)
        self.assertIsNone(longest_wait(Timetable((1, 0))))
        self.assertIsNone(longest_wait(Timetable((2, 1), (0, 0))))

    def test_the_list_may_be_modified(self):
        timetable = Timetable((2, 1))
        never_answered(timetable).append(5)
        self.assertEqual(never_answered(timetable), [0])

    def test_no_letters(self):
        for function in (never_answered, longest_wait):
            for timetable in (Timetable((0, 0)), Timetable((0, 1), (0, 9))):
                with self.assertRaises(NoLetters):
                    function(timetable)


class AnsweredInATick(unittest.TestCase):
    def test_in_order(self):
        self.assertEqual(list(answered_in(Timetable((3, 0), (2, 4)), 1)), [4, 3, 2, 1])
        self.assertEqual(list(answered_in(Timetable((3, 0), (2, 4)), 3)), [9, 8, 7, 6])

    def test_idle_answers_yield_nothing(self):
        self.assertEqual(list(answered_in(Timetable((2, 9)), 7)), [15, 14])
        self.assertEqual(list(answered_in(Timetable((0, 9), (1, 0)), 0)), [])
        self.assertEqual(list(answered_in(Timetable((0, 9), (1, 0)), 2)), [0])

    def test_ticks_without_answers(self):
        self.assertEqual(list(answered_in(Timetable((3, 0), (0, 1)), 2)), [])

    def test_against_the_plain_pile(self):
        for rows in with_letters(small_rows() + mixed_rows(48)):
            timetable = Timetable(*rows)
            answered = PlainPile(rows, 6 * len(rows)).answered
            found = [list(answered_in(timetable, tick)) for tick in range(6 * len(rows))]
            self.assertEqual(found, answered, rows)

    def test_last_tick(self):
        self.assertEqual(list(answered_in(Timetable((2, 1)), LAST)), [2 * LAST + 1])
        self.assertEqual(list(answered_in(Timetable((0, 3), (2, 0)), LAST)), [LAST - 1, LAST - 2])
        for rows in with_letters(mixed_rows(48)):
            timetable = Timetable(*rows)
            for letter in answered_in(timetable, LAST):
                # Letters above 10 ** 18 are asked for by the one at their place of the first round.
                turns, first = divmod(letter, timetable.letters_per_round)
                self.assertEqual(turns * len(rows) + answer_tick(timetable, first), LAST)

    def test_it_is_a_generator_that_checks_when_it_begins(self):
        found = answered_in(Timetable((0, 1)), -1)
        self.assertIsInstance(found, types.GeneratorType)
        with self.assertRaises(NoLetters):
            next(found)
        found = answered_in(Timetable((1, 1)), -1)
        with self.assertRaises(InvalidNumber):
            next(found)

    def test_wrong_ticks(self):
        for tick in OUT_OF_RANGE + NO_NUMBERS:
            with self.subTest(tick=str(type(tick))), self.assertRaises(InvalidNumber):
                list(answered_in(Timetable((2, 1)), tick))
            with self.assertRaises(NoLetters):
                list(answered_in(Timetable((0, 1)), tick))

    def test_equal_values_again(self):
        timetable = Timetable((3, 0), (2, 4))
        self.assertEqual(list(answered_in(timetable, 1)), list(answered_in(timetable, 1)))


class LettersAtTheTop(unittest.TestCase):
    def test_top_one_first(self):
        timetable = Timetable((3, 1))
        self.assertEqual(list(top_letters(timetable, 1, 9)), [4, 3, 1, 0])
        self.assertEqual(list(top_letters(timetable, 1, 3)), [4, 3, 1])
        self.assertEqual(list(top_letters(timetable, 1, 1)), [4])

    def test_no_letters_asked_for(self):
        self.assertEqual(list(top_letters(Timetable((3, 1)), 5, 0)), [])
        self.assertEqual(list(top_letters(Timetable((3, 1)), LAST, 0)), [])

    def test_empty_piles(self):
        self.assertEqual(list(top_letters(Timetable((3, 4)), 5, 1000)), [])
        self.assertEqual(list(top_letters(Timetable((0, 1), (1, 0)), 0, 1000)), [])
        self.assertEqual(list(top_letters(Timetable((0, 1), (1, 0)), LAST, 1000)), [])

    def test_a_thousand_of_a_growing_pile(self):
        self.assertEqual(list(top_letters(Timetable((1, 0)), 2000, 1000)), list(range(2000, 1000, -1)))
        self.assertEqual(list(top_letters(Timetable((1, 0)), 998, 1000)), list(range(998, -1, -1)))
        self.assertEqual(list(top_letters(Timetable((1, 0)), LAST, 1000)), list(range(LAST, LAST - 1000, -1)))

    def test_a_thousand_of_a_pile_that_grows_slowly(self):
        rows = [(1, 0)] + [(1, 1)] * 23
        timetable = Timetable(*rows)
        never = [LAST - LAST % 24 - 24 * k for k in range(1000)]
        self.assertEqual(list(top_letters(timetable, LAST, 1000)), never)
        pile = PlainPile(rows, 24 * 1005).piles[-1]
        self.assertEqual(list(top_letters(timetable, 24 * 1005 - 1, 1000)), pile[:-1001:-1])

    def test_against_the_plain_pile(self):
        for rows in with_letters(small_rows() + mixed_rows(48)):
            timetable = Timetable(*rows)
            piles = PlainPile(rows, 5 * len(rows)).piles
            for tick, pile in enumerate(piles):
                downwards = list(reversed(pile))
                self.assertEqual(list(top_letters(timetable, tick, 1000)), downwards[:1000], rows)
                self.assertEqual(list(top_letters(timetable, tick, 2)), downwards[:2], rows)

    def test_it_is_a_generator_that_checks_when_it_begins(self):
        found = top_letters(Timetable((0, 1)), -1, -1)
        self.assertIsInstance(found, types.GeneratorType)
        with self.assertRaises(NoLetters):
            next(found)
        found = top_letters(Timetable((2, 1)), 5, 1001)
        with self.assertRaises(InvalidNumber):
            next(found)

    def test_wrong_ticks(self):
        for tick in OUT_OF_RANGE + NO_NUMBERS:
            with self.assertRaises(InvalidNumber):
                list(top_letters(Timetable((2, 1)), tick, 5))
            with self.assertRaises(NoLetters):
                list(top_letters(Timetable((0, 1)), tick, 5))

    def test_wrong_counts(self):
        for count in (-1, 1001, LAST, 10 ** 5000) + NO_NUMBERS:
            with self.assertRaises(InvalidNumber):
                list(top_letters(Timetable((2, 1)), 5, count))
            with self.assertRaises(NoLetters):
                list(top_letters(Timetable((0, 1)), 5, count))

    def test_equal_values_again(self):
        timetable = Timetable((3, 1))
        self.assertEqual(list(top_letters(timetable, 3, 9)), list(top_letters(timetable, 3, 9)))


class PlaceOfTheInterface(unittest.TestCase):
    def test_functions_are_defined_in_this_file(self):
        for name in (
            "arrival", "answer_tick", "wait", "never_answered", "longest_wait", "answered_in", "top_letters"
        ):
            self.assertEqual(getattr(letters, name).__module__, "topletter.letters")

    def test_arguments_have_their_names(self):
        timetable = Timetable((2, 1))
        for function in OF_A_LETTER:
            function(timetable=timetable, letter=1)
        for function in (never_answered, longest_wait):
            function(timetable=timetable)
        self.assertEqual(list(answered_in(timetable=timetable, tick=0)), [1])
        self.assertEqual(list(top_letters(timetable=timetable, tick=0, count=1)), [0])

    def test_calls_leave_the_timetable_as_it_is(self):
        timetable = Timetable((2, 1), (0, 1), (1, 0))
        for function in OF_A_LETTER:
            function(timetable, 5)
        never_answered(timetable)
        longest_wait(timetable)
        list(answered_in(timetable, 5))
        list(top_letters(timetable, 5, 5))
        self.assertEqual(timetable.rows, ((2, 1), (0, 1), (1, 0)))


if __name__ == "__main__":
    unittest.main()
