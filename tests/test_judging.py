import itertools
import random
import unittest

from tests.plain_pile import PlainPile, mixed_rows, small_rows
from tests.wrong_values import NO_NUMBERS
from topletter.errors import Contradiction, InvalidNumber
from topletter.judging import PileObserver, first_log_error
from topletter.timetables import Timetable

TIMETABLE = Timetable((2, 1), (0, 1), (1, 0))
TICKS = 201


def begun(rows):
    """The piles of all beginnings, one for each first row."""
    return [PlainPile(rows[first:] + rows[:first], TICKS) for first in range(len(rows))]


def state(observer):
    return [observer.first_rows, observer.observations]


class Logs(unittest.TestCase):
    def test_the_log_of_what_happens_has_no_error(self):
        for rows in small_rows() + mixed_rows(48):
            log = PlainPile(rows, 60).answered
            for many in (0, 1, 2, 60):
                self.assertIsNone(first_log_error(Timetable(*rows), log[:many]), rows)

    def test_the_first_tick_with_another_list(self):
        for number, rows in enumerate(mixed_rows(72)):
            source = random.Random(number)
            log = PlainPile(rows, 50).answered
            tick = source.randrange(50)
            entry = log[tick]
            others = [entry + [0], entry + [10 ** 18], [-1] + entry, None, entry + [None], tuple(entry)]
            if entry:
                others += [entry[:-1], entry[1:], entry[:-1] + [entry[-1] + 1], [], [entry]]
            if len(entry) > 1:
                others += [entry[::-1], entry[1:] + entry[:1]]
            for other in others:
                wrong = log[:tick] + [other] + log[tick + 1:]
                self.assertEqual(first_log_error(Timetable(*rows), wrong), tick, (rows, other))
                # Later entries are not looked at.
                self.assertEqual(first_log_error(Timetable(*rows), log[:tick] + [other, other, None]), tick)

    def test_an_empty_log(self):
        self.assertIsNone(first_log_error(TIMETABLE, []))

    def test_what_is_no_list(self):
        for log in (None, True, False, 0, 1, "", "[]", (), ([1],), ([1], [0], []), "1"):
            found = first_log_error(TIMETABLE, log)
            self.assertEqual([found, type(found)], [0, int])
            self.assertEqual(first_log_error(Timetable((0, 0)), log), 0)

    def test_entries_that_are_no_lists_of_numbers(self):
        for entry in (None, True, 0, 1, "", "0", (), (0,), "[0]", [True], [False], [None], ["0"], [[0]], [(0,)]):
            self.assertEqual(first_log_error(TIMETABLE, [[1], entry]), 1, entry)
            self.assertEqual(first_log_error(TIMETABLE, [entry]), 0, entry)

    def test_true_and_false_are_no_letters(self):
        self.assertIsNone(first_log_error(TIMETABLE, [[1], [0]]))
        self.assertEqual(first_log_error(TIMETABLE, [[True], [0]]), 0)
        self.assertEqual(first_log_error(TIMETABLE, [[1], [False]]), 1)

    def test_entries_of_ticks_without_answered_letters(self):
        timetable = Timetable((0, 5))
        self.assertIsNone(first_log_error(timetable, [[], [], []]))
        for entry in (None, (), "", 0, False, [0]):
            self.assertEqual(first_log_error(timetable, [[], entry]), 1, entry)

    def test_long_logs(self):
        timetable = Timetable((3, 1), (0, 2), (9, 8), (0, 0), (1, 3))
        log = PlainPile(list(timetable.rows), 5000).answered
        self.assertIsNone(first_log_error(timetable, log))
        log[4999] = log[4999] + [0]
        self.assertEqual(first_log_error(timetable, log), 4999)

    def test_the_log_is_left_as_it_is(self):
        log = [[1], [0], [2], None]
        for _ in range(2):
            self.assertEqual(first_log_error(TIMETABLE, log), 2)
        self.assertEqual(log, [[1], [0], [2], None])


class Heights(unittest.TestCase):
    def test_each_height_of_each_beginning(self):
        for rows in mixed_rows(48):
            piles = begun(rows)
            for tick in (0, 1, 2, 7, 30, 199, 200):
                heights = [pile.heights[tick] for pile in piles]
                for height in set(heights):
                    observer = PileObserver(Timetable(*rows))
                    left = [first for first in range(len(rows)) if heights[first] == height]
                    self.assertEqual(observer.see_height(tick, height), len(left))
                    self.assertEqual(state(observer), [left, [("see_height", tick, height)]])
                self.assertEqual(PileObserver(Timetable(*rows)).possible_heights(tick), sorted(set(heights)))

    def test_no_height_and_the_greatest_one(self):
        observer = PileObserver(Timetable((9, 0)))
        self.assertEqual([observer.see_height(200, 1809), observer.possible_heights(200)], [1, [1809]])
        with self.assertRaises(Contradiction):
            observer.see_height(200, 0)
        observer = PileObserver(Timetable((0, 9), (9, 9)))
        self.assertEqual([observer.see_height(0, 0), observer.see_height(200, 0)], [2, 2])
        with self.assertRaises(Contradiction):
            observer.see_height(200, 1809)
        self.assertEqual(observer.observations, [("see_height", 0, 0), ("see_height", 200, 0)])

    def test_numbers_out_of_range(self):
        observer = PileObserver(TIMETABLE)
        observer.see_height(0, 1)
        before = state(observer)
        wrong = [(-1, 0), (201, 0), (0, -1), (0, 1810), (10 ** 18, 0), (0, 10 ** 5000), (-1, -1), (201, 1810)]
        wrong += [(value, 0) for value in NO_NUMBERS] + [(0, value) for value in NO_NUMBERS]
        for tick, height in wrong:
            with self.assertRaises(InvalidNumber) as caught:
                observer.see_height(tick, height)
            self.assertIs(type(caught.exception), InvalidNumber)
            self.assertEqual(state(observer), before)

    def test_possible_heights_of_wrong_ticks(self):
        for tick in (-1, 201, 10 ** 18, 10 ** 5000) + NO_NUMBERS:
            with self.assertRaises(InvalidNumber):
                PileObserver(TIMETABLE).possible_heights(tick)

    def test_possible_heights_are_told_in_ascending_order(self):
        observer = PileObserver(Timetable((9, 0), (0, 9), (3, 0), (0, 9), (0, 0), (5, 0)))
        self.assertEqual(observer.possible_heights(0), [0, 3, 5, 9])
        self.assertEqual(observer.see_height(1, 0), 3)
        self.assertEqual(observer.possible_heights(0), [0, 3, 9])


class Answers(unittest.TestCase):
    def test_each_list_of_each_beginning(self):
        for rows in mixed_rows(48):
            piles = begun(rows)
            for tick in (0, 1, 2, 7, 30, 199, 200):
                answered = [pile.answered[tick] for pile in piles]
                for letters in answered:
                    observer = PileObserver(Timetable(*rows))
                    left = [first for first in range(len(rows)) if answered[first] == letters]
                    self.assertEqual(observer.see_answered(tick, *letters), len(left))
                    self.assertEqual(state(observer), [left, [("see_answered", tick, *letters)]])

    def test_other_letters_are_a_contradiction(self):
        observer = PileObserver(Timetable((3, 2)))
        wrong = [(), (2,), (1, 2), (2, 1, 0), (2, 0), (-1, 2), (10 ** 5000, 1)]
        wrong += [(2, True), ("2", "1"), (2, None), ([2, 1],), ((2, 1),), (2, 1, None)]
        for letters in wrong:
            with self.assertRaises(Contradiction) as caught:
                observer.see_answered(0, *letters)
            self.assertIs(type(caught.exception), Contradiction)
            self.assertEqual(state(observer), [[0], []])
        self.assertEqual(observer.see_answered(0, 2, 1), 1)

    def test_true_and_false_are_no_letters(self):
        observer = PileObserver(TIMETABLE)
        for tick, letters in ((0, [True]), (1, [False]), (1, [True])):
            with self.assertRaises(Contradiction):
                observer.see_answered(tick, *letters)
        self.assertEqual(observer.see_answered(0, 1), 1)

    def test_no_letters(self):
        observer = PileObserver(TIMETABLE)
        self.assertEqual([observer.see_answered(0), observer.first_rows], [2, [1, 2]])
        self.assertEqual(observer.observations, [("see_answered", 0)])

    def test_ticks_out_of_range(self):
        observer = PileObserver(TIMETABLE)
        for tick in (-1, 201, 10 ** 18, 10 ** 5000) + NO_NUMBERS:
            for letters in ((), (1,), (None,)):
                with self.assertRaises(InvalidNumber) as caught:
                    observer.see_answered(tick, *letters)
                self.assertIs(type(caught.exception), InvalidNumber)
        self.assertEqual(state(observer), [[0, 1, 2], []])


class Observers(unittest.TestCase):
    def test_at_first_all_rows_are_possible(self):
        for rows in mixed_rows(24):
            self.assertEqual(state(PileObserver(Timetable(*rows))), [list(range(len(rows))), []])

    def test_rows_that_are_alike_remain_together(self):
        observer = PileObserver(Timetable((1, 0), (1, 0)))
        self.assertEqual([observer.see_height(5, 6), observer.see_answered(5), observer.first_rows], [2, 2, [0, 1]])

    def test_random_observations(self):
        for seed, rows in enumerate(mixed_rows(96)):
            source = random.Random(seed)
            piles = begun(rows)
            observer = PileObserver(Timetable(*rows))
            left = list(range(len(rows)))
            seen = []
            for _ in range(12):
                tick = source.randrange(TICKS)
                other = source.choice(piles)
                if source.random() < 0.5:
                    height = other.heights[tick]
                    observation = ("see_height", tick, height)
                    remain = [first for first in left if piles[first].heights[tick] == height]
                else:
                    observation = ("see_answered", tick, *other.answered[tick])
                    remain = [first for first in left if piles[first].answered[tick] == other.answered[tick]]
                call = getattr(observer, observation[0])
                if remain:
                    self.assertEqual(call(*observation[1:]), len(remain))
                    left = remain
                    seen.append(observation)
                else:
                    with self.assertRaises(Contradiction):
                        call(*observation[1:])
                self.assertEqual(state(observer), [left, seen])
                heights = sorted({piles[first].heights[tick] for first in left})
                self.assertEqual(observer.possible_heights(tick), heights)
            self.assertEqual(state(PileObserver.from_log(Timetable(*rows), seen)), [left, seen])

    def test_after_a_contradiction_nothing_is_recorded(self):
        observer = PileObserver(TIMETABLE)
        observer.see_height(0, 1)
        before = state(observer)
        for _ in range(2):
            with self.assertRaises(Contradiction):
                observer.see_height(0, 0)
            with self.assertRaises(Contradiction):
                observer.see_answered(0, 7)
            self.assertEqual(state(observer), before)
        self.assertEqual(observer.see_answered(0, 1), 1)
        self.assertEqual(state(observer), [[0], [("see_height", 0, 1), ("see_answered", 0, 1)]])

    def test_an_observation_that_tells_nothing_new_is_recorded(self):
        observer = PileObserver(TIMETABLE)
        self.assertEqual([observer.see_height(0, 1), observer.see_height(0, 1)], [2, 2])
        self.assertEqual(observer.observations, [("see_height", 0, 1)] * 2)

    def test_returned_lists_may_be_changed(self):
        observer = PileObserver(TIMETABLE)
        observer.see_height(0, 1)
        for found in (observer.first_rows, observer.observations, observer.possible_heights(0)):
            found.append(5)
            found[0] = None
        self.assertEqual(state(observer), [[0, 2], [("see_height", 0, 1)]])
        self.assertEqual(observer.possible_heights(0), [1])
        self.assertIsNot(observer.first_rows, observer.first_rows)
        self.assertIsNot(observer.observations, observer.observations)

    def test_properties_cannot_be_assigned(self):
        for name in ("first_rows", "observations"):
            with self.assertRaises(AttributeError):
                setattr(PileObserver(TIMETABLE), name, [])

    def test_observers_of_one_timetable_do_not_touch_each_other(self):
        one = PileObserver(TIMETABLE)
        other = PileObserver(TIMETABLE)
        one.see_height(0, 0)
        self.assertEqual(state(other), [[0, 1, 2], []])

    def test_a_timetable_without_letters(self):
        observer = PileObserver(Timetable((0, 1), (0, 2)))
        self.assertEqual([observer.see_height(3, 0), observer.see_answered(9), observer.best_tick(200)], [2, 2, 0])


class FromLog(unittest.TestCase):
    def test_without_observations(self):
        self.assertEqual(state(PileObserver.from_log(TIMETABLE, [])), [[0, 1, 2], []])

    def test_observations(self):
        log = [("see_height", 0, 1), ("see_answered", 0), ("see_answered", 3)]
        observer = PileObserver.from_log(TIMETABLE, log)
        self.assertIsInstance(observer, PileObserver)
        self.assertEqual(state(observer), [[2], log])
        log.clear()
        self.assertEqual(len(observer.observations), 3)

    def test_errors(self):
        for wrong in (("see_height", 201, 0), ("see_height", 0, 1810), ("see_height", None, 0), ("see_height", 0, "1"),
                      ("see_answered", -1), ("see_answered", True, 1)):
            with self.assertRaises(InvalidNumber):
                PileObserver.from_log(TIMETABLE, [("see_height", 0, 1), wrong])
        for wrong in (("see_height", 0, 0), ("see_answered", 0, 0), ("see_answered", 0, None)):
            with self.assertRaises(Contradiction):
                PileObserver.from_log(TIMETABLE, [("see_height", 0, 1), wrong, ("see_height", 201, 0)])


class BestTick(unittest.TestCase):
    def plain_best(self, piles, left, limit):
        best = None
        for tick in range(limit + 1):
            worst = 0
            for height in {piles[first].heights[tick] for first in left}:
                worst = max(worst, len([first for first in left if piles[first].heights[tick] == height]))
            if best is None or worst < best[0]:
                best = (worst, tick)
        return best[1]

    def test_all_limits(self):
        for rows in mixed_rows(72):
            piles = begun(rows)
            observer = PileObserver(Timetable(*rows))
            for limit in (0, 1, 2, 3, 10, 25, 50):
                expected = self.plain_best(piles, range(len(rows)), limit)
                self.assertEqual(observer.best_tick(limit), expected, (rows, limit))

    def test_behind_observations(self):
        for rows in mixed_rows(96):
            piles = begun(rows)
            observer = PileObserver(Timetable(*rows))
            observer.see_height(1, piles[-1].heights[1])
            for limit in (0, 3, 30):
                expected = self.plain_best(piles, observer.first_rows, limit)
                self.assertEqual(observer.best_tick(limit), expected, (rows, limit))

    def test_the_first_one_of_several(self):
        # All ticks leave both rows, or one of two.
        self.assertEqual([PileObserver(Timetable((1, 0), (1, 0))).best_tick(limit) for limit in (0, 200)], [0, 0])
        self.assertEqual([PileObserver(Timetable((2, 0), (1, 0))).best_tick(limit) for limit in (0, 1, 200)], [0, 0, 0])
        observer = PileObserver(Timetable((2, 1), (0, 1), (1, 0)))
        self.assertEqual([observer.best_tick(limit) for limit in (0, 1, 2, 200)], [0, 1, 1, 1])

    def test_the_limit_is_looked_at_too(self):
        found = []
        for rows in mixed_rows(96):
            observer = PileObserver(Timetable(*rows))
            best = observer.best_tick(60)
            self.assertEqual(observer.best_tick(best), best)
            if best > 0:
                self.assertLess(observer.best_tick(best - 1), best)
            found.append(best)
        self.assertGreater(max(found), 5)

    def test_not_the_number_of_heights_decides_but_the_worst_case(self):
        found = []
        for rows in itertools.product([(0, 0), (1, 0), (2, 0), (3, 1), (0, 3)], repeat=4):
            piles = begun(list(rows))
            observer = PileObserver(Timetable(*rows))
            best = observer.best_tick(4)
            self.assertEqual(best, self.plain_best(piles, range(4), 4))
            many = [len({pile.heights[tick] for pile in piles}) for tick in range(5)]
            found.append(best != many.index(max(many)))
        self.assertTrue(any(found))

    def test_greatest_limit(self):
        for rows in mixed_rows(24):
            expected = self.plain_best(begun(rows), range(len(rows)), 200)
            self.assertEqual(PileObserver(Timetable(*rows)).best_tick(200), expected)

    def test_asking_changes_nothing(self):
        observer = PileObserver(TIMETABLE)
        observer.see_height(0, 1)
        before = state(observer)
        self.assertEqual([observer.best_tick(9), observer.best_tick(9)], [observer.best_tick(9)] * 2)
        self.assertEqual(state(observer), before)

    def test_limits_out_of_range(self):
        for limit in (-1, 201, 10 ** 18, 10 ** 5000) + NO_NUMBERS:
            with self.assertRaises(InvalidNumber):
                PileObserver(TIMETABLE).best_tick(limit)


if __name__ == "__main__":
    unittest.main()
