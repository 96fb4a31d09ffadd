import types
import unittest

from tests.plain_pile import PlainPile, mixed_rows, small_rows, with_letters
from tests.wrong_values import LAST, NO_NUMBERS, OUT_OF_RANGE
from topletter import chains
from topletter.chains import one_less, one_more
from topletter.errors import InvalidNumber, NoAnswer, NoLetters
from topletter.timetables import Timetable

BOTH = (one_more, one_less)
# A letter waits for less than a round, and so does one for an answer that is idle, if there is one.
MORE_ROUNDS = 3


def chain_of(before, after, letter):
    """What a pile with a letter more or an answer less makes of this letter and of those below it."""
    links = []
    while True:
        links.append((letter, before.answers.get(letter), after.answers.get(letter)))
        if letter not in after.below or after.below[letter] not in before.answers:
            return links
        letter = after.below[letter]


class AgainstThePlainPile(unittest.TestCase):
    def check_changes(self, before, after, links, where):
        """Whatever is not in the chain does not change."""
        changed = [letter for letter, _, _ in links]
        for letter in range(len(before.arrivals)):
            if letter not in changed:
                self.assertEqual(after.answers.get(letter), before.answers.get(letter), where)

    def check_one_more(self, rows, tick):
        ticks = tick + MORE_ROUNDS * len(rows)
        before = PlainPile(rows, ticks)
        after = PlainPile(rows, ticks, more_in=tick)
        links = list(one_more(Timetable(*rows), tick))
        self.assertEqual(links, chain_of(before, after, None), (rows, tick))
        self.check_changes(before, after, links, (rows, tick))

    def check_one_less(self, rows, tick):
        if rows[tick % len(rows)][1] == 0:
            with self.assertRaises(NoAnswer):
                list(one_less(Timetable(*rows), tick))
            return
        ticks = tick + MORE_ROUNDS * len(rows)
        before = PlainPile(rows, ticks)
        after = PlainPile(rows, ticks, less_in=tick)
        links = list(one_less(Timetable(*rows), tick))
        expected = []
        if before.idle[tick] == 0:
            expected = chain_of(before, after, before.answered[tick][-1])
        self.assertEqual(links, expected, (rows, tick))
        self.check_changes(before, after, links, (rows, tick))

    def test_small_timetables(self):
        for rows in with_letters(small_rows()):
            for tick in range(3 * len(rows)):
                self.check_one_more(rows, tick)
                self.check_one_less(rows, tick)

    def test_mixed_timetables(self):
        for number, rows in enumerate(with_letters(mixed_rows(96))):
            for tick in range(number % 3, 3 * len(rows), 3):
                self.check_one_more(rows, tick)
                self.check_one_less(rows, tick)

    def test_far_ticks_are_as_those_of_the_second_round(self):
        for rows in with_letters(small_rows()[::5] + mixed_rows(48)):
            timetable = Timetable(*rows)
            for tick in range(LAST - len(rows) + 1, LAST + 1):
                near = len(rows) + tick % len(rows)
                turns = (tick - near) // len(rows)
                ticks = near + MORE_ROUNDS * len(rows)
                before = PlainPile(rows, ticks)
                after = PlainPile(rows, ticks, more_in=near)
                self.check_far(one_more(timetable, tick), timetable, turns, chain_of(before, after, None))
                if before.answered[near] and before.idle[near] == 0:
                    after = PlainPile(rows, ticks, less_in=near)
                    links = chain_of(before, after, before.answered[near][-1])
                    self.check_far(one_less(timetable, tick), timetable, turns, links)

    def check_far(self, found, timetable, turns, links):
        """The same chain, so many rounds later."""
        letters = turns * timetable.letters_per_round
        ticks = turns * len(timetable)
        expected = []
        for letter, former, later in links:
            link = (letters, letter), (ticks, former), (ticks, later)
            expected.append(tuple(None if near is None else far + near for far, near in link))
        self.assertEqual(list(found), expected, timetable.rows)


class OneMore(unittest.TestCase):
    def assert_chain(self, links, tick, *rows):
        self.assertEqual(list(one_more(Timetable(*rows), tick)), links)

    def test_it_ends_at_a_letter_that_is_never_answered(self):
        self.assert_chain([(None, None, 0), (1, 0, None)], 0, (2, 1))
        self.assert_chain([(None, None, 1), (1, 1, None)], 0, (2, 0), (0, 1))
        self.assert_chain([(None, None, 1), (1, 1, None)], 1, (2, 0), (0, 1))

    def test_the_letter_directly_below_is_never_answered(self):
        self.assert_chain([(None, None, None)], 0, (1, 0))
        self.assert_chain([(None, None, None)], 5, (2, 1), (0, 0))

    def test_it_ends_at_an_idle_answer(self):
        self.assert_chain([(None, None, 0), (0, 0, 1)], 0, (1, 1), (0, 1))
        self.assert_chain([(None, None, 0), (1, 0, 1), (0, 1, 3)], 0, (2, 1), (0, 1), (0, 0), (0, 5))

    def test_an_idle_answer_in_the_tick_of_the_answer_that_is_lost(self):
        self.assert_chain([(None, None, 0), (0, 0, 0)], 0, (1, 3))
        self.assert_chain([(None, None, 3), (1, 3, 3)], 2, (1, 0), (0, 2))
        self.assert_chain([(None, None, 1), (1, 1, 1), (0, 1, 1)], 0, (2, 0), (0, 3))

    def test_an_idle_answer_ahead_of_the_letters_own_one_does_not_count(self):
        # The idle answer of tick 0 comes ahead of the letter more, that of tick 3 behind it.
        self.assert_chain([(None, None, 2), (0, 2, 3)], 1, (0, 1), (1, 0), (0, 1))

    def test_no_idle_answer(self):
        self.assert_chain([(None, None, 0), (0, 0, None)], 0, (1, 1))
        self.assert_chain([(None, None, 1), (1, 1, 2), (0, 2, None)], 0, (2, 0), (0, 1), (0, 1))

    def test_no_letter_below_the_letter_more(self):
        self.assert_chain([(None, None, 0)], 0, (0, 2), (1, 0))
        self.assert_chain([(None, None, 2)], 0, (0, 0), (1, 1), (0, 1))
        self.assert_chain([(None, None, None)], 0, (0, 0), (1, 1))

    def test_idle_answers_of_the_first_round_of_a_growing_pile(self):
        rows = ((0, 5), (6, 0))
        self.assert_chain([(None, None, 0)], 0, *rows)
        taken = [(5, 2, 2), (4, 2, 2), (3, 2, 2), (2, 2, 2), (1, 2, None)]
        self.assert_chain([(None, None, 2)] + taken, 1, *rows)

    def test_letters_of_several_ticks(self):
        rows = ((1, 0), (2, 1), (0, 1), (1, 1), (0, 2))
        self.assert_chain([(None, None, 1), (2, 1, 2), (1, 2, 4), (0, 4, 4)], 1, *rows)
        self.assert_chain([(None, None, 3), (3, 3, 4), (0, 4, 4)], 3, *rows)

    def test_letters_that_outlast_the_answers_of_later_ones(self):
        rows = [(9, 0)] * 12 + [(0, 9)] * 12
        letters = list(range(107, -1, -1))
        answers = [12 + place // 9 for place in range(108)]
        links = list(zip([None] + letters, [None] + answers, answers + [None]))
        self.assert_chain(links, 11, *rows)

    def test_first_and_last_tick(self):
        self.assert_chain([(None, None, 0), (0, 0, None)], 0, (1, 1))
        self.assert_chain([(None, None, LAST), (LAST, LAST, None)], LAST, (1, 1))
        self.assert_chain([(None, None, LAST), (LAST, LAST, LAST)], LAST, (1, 2))
        self.assert_chain([(None, None, LAST), (2 * LAST + 1, LAST, None)], LAST, (2, 1))
        self.assert_chain([(None, None, None)], LAST, (9, 0))

    def test_the_last_tick_can_change_answers_behind_it(self):
        # 10 ** 18 is a multiple of 5: letters come in it, and are answered in the rest of the round.
        letter = LAST // 5 * 2
        links = [(None, None, LAST + 1), (letter + 1, LAST + 1, LAST + 2), (letter, LAST + 2, LAST + 4)]
        self.assert_chain(links, LAST, (2, 0), (0, 1), (0, 1), (0, 0), (0, 1))

    def test_a_pile_that_grows_slowly(self):
        # The first letter of each round is never answered; 10 ** 18 holds the 17th row.
        rows = [(1, 0)] + [(1, 1)] * 23
        self.assert_chain([(None, None, LAST), (LAST, LAST, None)], LAST, *rows)
        self.assert_chain([(None, None, None)], LAST - 16, *rows)


class OneLess(unittest.TestCase):
    def assert_chain(self, links, tick, *rows):
        self.assertEqual(list(one_less(Timetable(*rows), tick)), links)

    def test_an_idle_answer_in_the_tick_changes_nothing(self):
        self.assert_chain([], 0, (1, 2))
        self.assert_chain([], 1, (1, 2), (0, 1))
        self.assert_chain([], 0, (0, 1), (1, 0))
        self.assert_chain([], LAST, (1, 2))
        self.assert_chain([], LAST, (2, 3), (0, 0))

    def test_no_answer_in_the_tick(self):
        for tick in (0, 2, LAST):
            with self.assertRaises(NoAnswer):
                list(one_less(Timetable((2, 0), (0, 1)), tick))

    def test_it_begins_with_the_letter_answered_last(self):
        self.assert_chain([(1, 0, 1), (0, 1, 3)], 0, (3, 2), (0, 1), (0, 0), (0, 4))
        self.assert_chain([(0, 1, 3)], 1, (3, 2), (0, 1), (0, 0), (0, 4))

    def test_it_ends_at_a_letter_that_is_never_answered(self):
        self.assert_chain([(1, 0, None)], 0, (2, 1))
        self.assert_chain([(2, 0, 1), (1, 1, None)], 0, (4, 2), (0, 1))

    def test_it_ends_at_an_idle_answer(self):
        self.assert_chain([(0, 0, 1)], 0, (1, 1), (0, 1))
        self.assert_chain([(0, 0, 2)], 0, (1, 1), (1, 1), (1, 2))

    def test_no_idle_answer(self):
        self.assert_chain([(0, 0, None)], 0, (1, 1))
        self.assert_chain([(1, 0, 1), (0, 1, None)], 0, (2, 1), (0, 1))

    def test_idle_answers_of_the_first_round_are_over(self):
        # Tick 0 has an idle answer, but no later tick has: 4 letters come in a round, and 4 are answered.
        self.assert_chain([], 0, (1, 2), (3, 2))
        self.assert_chain([(2, 1, 2), (1, 2, None)], 1, (1, 2), (3, 2))
        self.assert_chain([(1, 2, None)], 2, (1, 2), (3, 2))
        self.assert_chain([(2 * LAST - 3, LAST, None)], LAST, (1, 2), (3, 2))

    def test_first_and_last_tick(self):
        self.assert_chain([(0, 0, None)], 0, (1, 1))
        self.assert_chain([(LAST, LAST, None)], LAST, (1, 1))
        self.assert_chain([(2 * LAST + 1, LAST, None)], LAST, (2, 1))
        self.assert_chain([(LAST // 2, LAST, LAST + 1)], LAST, (1, 1), (0, 1))


class Calls(unittest.TestCase):
    def test_they_are_generators_that_check_when_they_begin(self):
        for function in BOTH:
            found = function(Timetable((0, 1)), -1)
            self.assertIsInstance(found, types.GeneratorType)
            with self.assertRaises(NoLetters):
                next(found)
            found = function(Timetable((1, 1)), -1)
            with self.assertRaises(InvalidNumber):
                next(found)
        found = one_less(Timetable((1, 0)), 0)
        with self.assertRaises(NoAnswer):
            next(found)

    def test_wrong_ticks(self):
        for function in BOTH:
            for tick in OUT_OF_RANGE + NO_NUMBERS:
                for timetable in (Timetable((2, 1)), Timetable((2, 0)), Timetable((0, 1), (1, 0))):
                    with self.assertRaises(InvalidNumber):
                        list(function(timetable, tick))

    def test_no_letters_is_raised_first(self):
        for function in BOTH:
            for tick in (0, LAST) + OUT_OF_RANGE + NO_NUMBERS:
                for timetable in (Timetable((0, 1)), Timetable((0, 0), (0, 0))):
                    with self.assertRaises(NoLetters):
                        list(function(timetable, tick))

    def test_equal_values_again(self):
        timetable = Timetable((3, 1), (0, 1), (0, 2))
        for function in BOTH:
            self.assertEqual(list(function(timetable, 0)), list(function(timetable, 0)))
            self.assertTrue(list(function(timetable, 0)))

    def test_links_are_tuples(self):
        for function in BOTH:
            for link in function(Timetable((3, 1), (0, 1), (0, 2)), 0):
                self.assertIs(type(link), tuple)
                self.assertEqual(len(link), 3)

    def test_calls_leave_the_timetable_as_it_is(self):
        timetable = Timetable((2, 1), (0, 1), (1, 1))
        for function in BOTH:
            list(function(timetable, 4))
        self.assertEqual(timetable.rows, ((2, 1), (0, 1), (1, 1)))

    def test_names_of_functions_and_arguments(self):
        for function in BOTH:
            self.assertEqual(function.__module__, "topletter.chains")
            self.assertIs(getattr(chains, function.__name__), function)
            self.assertTrue(list(function(timetable=Timetable((2, 1)), tick=0)))


if __name__ == "__main__":
    unittest.main()
