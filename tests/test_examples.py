"""The examples of the document's interface, each with the value or the exception written there."""

import unittest

from topletter.chains import one_less, one_more
from topletter.codec import decode_timetable, encode_timetable, pack_bytes, unpack_bytes
from topletter.errors import Contradiction, DecodeError, InvalidNumber, InvalidOperation, InvalidTimetable
from topletter.errors import NoAnswer, NoLetters, NotationError, UnknownLetter
from topletter.judging import PileObserver, first_log_error
from topletter.letters import answer_tick, answered_in, arrival, longest_wait, never_answered, top_letters, wait
from topletter.live import LivePile
from topletter.notation import chart, format_timetable, parse_timetable
from topletter.orders import bottom_answer, longest_bottom_wait, total_waiting
from topletter.planning import fewest_answers, first_late, first_unlike
from topletter.timetables import Timetable


class ExampleCase(unittest.TestCase):
    def assert_same(self, found, expected):
        """Equal, and of the same kinds: 0 is not False."""
        self.assertEqual(repr(found), repr(expected))


class FirstPart(ExampleCase):
    def setUp(self):
        self.timetable = Timetable((2, 1), (0, 1), (1, 1))

    def test_rows_and_numbers(self):
        timetable = self.timetable
        found = [len(timetable), timetable[4], timetable.letters_per_round, timetable.growth]
        self.assert_same(found, [3, (0, 1), 3, 0])

    def test_heights(self):
        timetable = self.timetable
        self.assert_same([timetable(0), timetable(1), timetable(2), timetable(3)], [1, 0, 0, 1])

    def test_sum(self):
        other = self.timetable + Timetable((1, 0))
        found = [other.rows, other.growth, bool(Timetable((0, 5)))]
        self.assert_same(found, [((3, 1), (1, 1), (2, 1)), 3, False])

    def test_invalid_row(self):
        with self.assertRaises(InvalidTimetable) as caught:
            Timetable((1, 1), (1, 10))
        self.assert_same(caught.exception.index, 1)

    def test_simple(self):
        self.assert_same(Timetable.simple("201", "111") == self.timetable, True)

    def test_with_answers(self):
        self.assert_same(self.timetable.with_answers(0, 0).rows[0], (2, 3))

    def test_with_answers_out_of_the_round(self):
        with self.assertRaises(InvalidNumber):
            self.timetable.with_answers(3)

    def test_single_letters(self):
        timetable = self.timetable
        found = [arrival(timetable, 4), answer_tick(timetable, 4), answer_tick(timetable, 3), wait(timetable, 3)]
        self.assert_same(found, [3, 3, 4, 1])

    def test_wait_of_no_letter(self):
        with self.assertRaises(InvalidNumber):
            wait(self.timetable, -1)

    def test_arrival_without_letters(self):
        with self.assertRaises(NoLetters):
            arrival(Timetable((0, 1)), 0)

    def test_all_letters(self):
        timetable = self.timetable
        found = [never_answered(timetable), longest_wait(timetable)]
        found += [never_answered(Timetable((2, 1))), longest_wait(Timetable((2, 1)))]
        self.assert_same(found, [[], 1, [0], None])

    def test_letters_of_a_tick(self):
        timetable = self.timetable
        self.assert_same([list(answered_in(timetable, 1)), list(top_letters(timetable, 3, 5))], [[0], [3]])

    def test_letters_of_a_far_tick(self):
        found = list(top_letters(Timetable((2, 1)), 10 ** 17, 3))
        self.assert_same(found, [200000000000000000, 199999999999999998, 199999999999999996])

    def test_one_more(self):
        self.assert_same(list(one_more(self.timetable, 0)), [(None, None, 0), (1, 0, 1), (0, 1, None)])

    def test_one_less_of_an_idle_answer(self):
        self.assert_same(list(one_less(Timetable((1, 2), (0, 1)), 1)), [])

    def test_one_less(self):
        self.assert_same(list(one_less(Timetable((2, 1), (0, 1), (0, 1)), 0)), [(1, 0, 1), (0, 1, 2)])

    def test_one_less_without_an_answer(self):
        with self.assertRaises(NoAnswer):
            list(one_less(Timetable((2, 0), (0, 1)), 2))

    def test_bottom_order(self):
        timetable = self.timetable
        found = [bottom_answer(timetable, 3), bottom_answer(timetable, 4), longest_bottom_wait(timetable)]
        self.assert_same(found, [3, 4, 1])

    def test_bottom_order_of_a_growing_pile(self):
        self.assert_same([bottom_answer(Timetable((2, 1)), 10), longest_bottom_wait(Timetable((2, 1)))], [10, None])

    def test_total_waiting(self):
        self.assert_same([total_waiting(self.timetable, 9), total_waiting(Timetable((2, 1)), 10)], [3, 55])

    def test_planning(self):
        timetable = self.timetable
        found = [fewest_answers(timetable, 0, 4), first_late(timetable, 0), first_late(timetable, 0, 0)]
        self.assert_same(found, [[0], 0, None])

    def test_planning_with_five_answers(self):
        with self.assertRaises(InvalidNumber):
            fewest_answers(self.timetable, 0, 5)

    def test_first_unlike(self):
        timetable = self.timetable
        found = [first_unlike(timetable, timetable.with_answers(0)), first_unlike(timetable, timetable.with_answers(1))]
        self.assert_same(found, [0, None])


class SecondPart(ExampleCase):
    def setUp(self):
        self.timetable = Timetable((2, 1), (0, 1), (1, 0))

    def test_operations_of_a_live_pile(self):
        live = LivePile(self.timetable)
        found = [live.pass_ticks(3), live.lying, live.add(2), live.answer(1), live.take(2), live.lying]
        self.assert_same(found, [[1, 0], (2,), [3, 4], [4], 1, (3,)])

    def test_letters_of_a_live_pile(self):
        live = LivePile(self.timetable)
        self.assert_same([live.pass_ticks(2), live(0), len(live), 0 in live], [[1, 0], 1, 0, False])

    def test_take_from_an_empty_live_pile(self):
        live = LivePile(self.timetable)
        with self.assertRaises(UnknownLetter) as caught:
            live.take(0)
        self.assert_same(caught.exception.letter, 0)

    def test_undo_and_redo(self):
        live = LivePile(self.timetable)
        found = [live.apply(("pass_ticks", 1), ("add", 1)), live.undo(), live.undo(), live.undo()]
        found += [live.redo(), live.history]
        self.assert_same(found, [[[1], [2]], True, True, False, True, [("pass_ticks", 1)]])

    def test_apply_what_is_no_operation(self):
        live = LivePile(self.timetable)
        with self.assertRaises(InvalidOperation) as caught:
            live.apply(("add", 1), ("add",))
        self.assert_same(caught.exception.index, 1)

    def test_lying_after(self):
        live = LivePile(self.timetable)
        self.assert_same([live.lying_after(("pass_ticks", 3)), live.next_tick], [(2,), 0])

    def test_replay(self):
        self.assert_same(LivePile.replay(self.timetable, [("pass_ticks", 2)]).answered, [(1, 0), (0, 1)])

    def test_first_log_error(self):
        timetable = self.timetable
        found = [first_log_error(timetable, [[1], [0], []]), first_log_error(timetable, [[1], [0], [2]])]
        self.assert_same(found, [None, 2])

    def test_observer(self):
        observer = PileObserver(self.timetable)
        found = [observer.possible_heights(0), observer.see_height(0, 1), observer.first_rows]
        found += [observer.see_answered(0, 1), observer.first_rows]
        self.assert_same(found, [[0, 1], 2, [0, 2], 1, [0]])

    def test_contradiction(self):
        with self.assertRaises(Contradiction):
            PileObserver(self.timetable).see_height(0, 5)

    def test_best_tick_and_from_log(self):
        timetable = self.timetable
        found = [PileObserver(timetable).best_tick(3)]
        found += [PileObserver.from_log(timetable, [("see_height", 0, 0)]).first_rows]
        self.assert_same(found, [1, [1]])

    def test_texts(self):
        found = [format_timetable(self.timetable), parse_timetable("row 9 0").rows]
        self.assert_same(found, ["row 2 1\nrow 0 1\nrow 1 0", ((9, 0),)])

    def test_wrong_text(self):
        with self.assertRaises(NotationError) as caught:
            parse_timetable("row 1 1\nrow 01 1")
        self.assert_same([caught.exception.row, caught.exception.word], [1, 1])

    def test_chart(self):
        self.assert_same(chart(self.timetable, 2, 2), "                  2                    1 *...................")

    def test_plain_bytes(self):
        self.assert_same(unpack_bytes(pack_bytes([76, 0, 255])), [76, 0, 255])

    def test_timetables_as_bytes(self):
        self.assert_same(decode_timetable(encode_timetable(self.timetable)).rows, ((2, 1), (0, 1), (1, 0)))

    def test_wrong_bytes(self):
        with self.assertRaises(DecodeError) as caught:
            decode_timetable(pack_bytes([76, 25]))
        self.assert_same(caught.exception.offset, 1)


if __name__ == "__main__":
    unittest.main()
