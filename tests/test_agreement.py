"""What is told ahead agrees with what a live pile does, with charts, logs and observers."""

import unittest

from tests.plain_pile import mixed_rows, small_rows, with_letters
from topletter.chains import one_more
from topletter.codec import decode_timetable, encode_timetable
from topletter.judging import PileObserver, first_log_error
from topletter.letters import answer_tick, answered_in, arrival, longest_wait, never_answered, top_letters, wait
from topletter.live import LivePile
from topletter.notation import chart, format_timetable, parse_timetable
from topletter.orders import total_waiting
from topletter.planning import fewest_answers, first_late, first_unlike
from topletter.timetables import Timetable


def timetables():
    return [Timetable(*rows) for rows in with_letters(small_rows()[::7] + mixed_rows(48))]


def course(live, ticks):
    """For each letter that comes in so many ticks: when it comes, and when it is answered."""
    come = []
    for tick in range(ticks):
        before = len(come)
        answered = live.pass_ticks(1)
        for letter in range(before, max([before - 1, *live.lying, *answered]) + 1):
            come.append(tick)
    return [(tick, live(letter)) for letter, tick in enumerate(come)]


class Agreement(unittest.TestCase):
    def test_heights_letters_and_sums(self):
        for timetable in timetables():
            live = LivePile(timetable)
            waiting = 0
            for tick in range(70):
                answered = live.pass_ticks(1)
                waiting += len(live)
                self.assertEqual(timetable(tick), len(live))
                self.assertEqual(list(answered_in(timetable, tick)), answered)
                self.assertEqual(tuple(top_letters(timetable, tick, 1000))[::-1], live.lying)
                self.assertEqual(total_waiting(timetable, tick + 1), waiting)

    def test_letter_by_letter(self):
        for timetable in timetables():
            ticks = 4 * len(timetable)
            live = LivePile(timetable)
            letters = course(live, ticks)
            self.assertEqual(len(letters), 4 * timetable.letters_per_round)
            for letter, (came, answered) in enumerate(letters[:2 * timetable.letters_per_round]):
                self.assertEqual([arrival(timetable, letter), answer_tick(timetable, letter)], [came, answered])
                passed = None if answered is None else answered - came
                self.assertEqual(wait(timetable, letter), passed)
            first = range(timetable.letters_per_round)
            self.assertEqual(never_answered(timetable), [letter for letter in first if letter in live])

    def test_charts(self):
        for timetable in timetables():
            live = LivePile(timetable)
            live.pass_ticks(20)
            for row in chart(timetable, 20, 119).split("\n"):
                self.assertEqual(int(row[:19]), live.next_tick)
                live.pass_ticks(1)
                self.assertEqual(int(row[20:40].replace(",", "")), len(live))
                self.assertEqual(row[41:].count("*"), min(20, len(live)))

    def test_logs(self):
        for timetable in timetables():
            live = LivePile(timetable)
            log = [live.pass_ticks(1) for _ in range(60)]
            self.assertIsNone(first_log_error(timetable, log))
            answered = [letter for entry in log for letter in entry]
            self.assertEqual([letter for letter, _ in live.answered], answered)
            if answered:
                tick = live(answered[-1])
                log[tick] = log[tick][:-1]
                self.assertEqual(first_log_error(timetable, log), tick)

    def test_observers_never_exclude_what_is_so(self):
        for timetable in timetables():
            for first in range(0, len(timetable), 5):
                live = LivePile(Timetable(*timetable.rows[first:], *timetable.rows[:first]))
                observer = PileObserver(timetable)
                for tick in range(60):
                    answered = live.pass_ticks(1)
                    self.assertIn(len(live), observer.possible_heights(tick))
                    if tick % 2:
                        observer.see_height(tick, len(live))
                    else:
                        observer.see_answered(tick, *answered)
                    self.assertIn(first, observer.first_rows)

    def test_the_best_tick_keeps_what_it_promises(self):
        for timetable in timetables():
            best = PileObserver(timetable).best_tick(30)
            counts = []
            for tick in range(31):
                heights = PileObserver(timetable).possible_heights(tick)
                counts.append(max([PileObserver(timetable).see_height(tick, height) for height in heights]))
            self.assertEqual(best, counts.index(min(counts)))

    def test_further_answers(self):
        for timetable in timetables():
            ticks = fewest_answers(timetable, 3, 2)
            if ticks is None or len(timetable) > 12:
                continue
            live = LivePile(timetable.with_answers(*ticks))
            letters = course(live, 3 * len(timetable) + 4)
            for came, answered in letters[:2 * timetable.letters_per_round]:
                self.assertLessEqual(answered - came, 3)
            late = first_late(timetable, 3)
            letters = course(LivePile(timetable), 4 * len(timetable))[:timetable.letters_per_round]
            waits = [None if answered is None else answered - came for came, answered in letters]
            found = [letter for letter, passed in enumerate(waits) if passed is None or passed > 3]
            self.assertEqual(late, found[0] if found else None)

    def test_the_longest_wait(self):
        for timetable in timetables():
            letters = course(LivePile(timetable), 4 * len(timetable))[:2 * timetable.letters_per_round]
            waits = [None if answered is None else answered - came for came, answered in letters]
            self.assertEqual(longest_wait(timetable), None if None in waits else max(waits))

    def test_where_timetables_part(self):
        found = timetables()
        for one, other in zip(found, found[1:]):
            if len(one) * len(other) > 200:
                continue
            ticks = 2 * len(one) * len(other)
            courses = [course(LivePile(timetable), ticks + 100) for timetable in (one, other)]
            letter = 0
            while letter < 9 * ticks and courses[0][letter:letter + 1] == courses[1][letter:letter + 1] != []:
                letter += 1
            if courses[0][letter:letter + 1] != courses[1][letter:letter + 1]:
                self.assertEqual(first_unlike(one, other), letter)

    def test_one_letter_more(self):
        # In a tick without answers, a letter that is added behind the tick is the last one of the tick.
        for timetable in timetables():
            without = [tick for tick in range(2 * len(timetable)) if timetable[tick][1] == 0]
            for tick in without[:6]:
                ticks = tick + 1 + 4 * len(timetable)
                plain = LivePile(timetable)
                plain.pass_ticks(tick + 1)
                live = LivePile.replay(timetable, plain.history)
                (more,) = live.add(1)
                for pile in (plain, live):
                    for _ in range(4):
                        pile.pass_ticks(len(timetable))
                    self.assertEqual(pile.next_tick, ticks)
                later = {}
                for letter, former, then in one_more(timetable, tick):
                    if letter is not None:
                        self.assertEqual(plain(letter), former)
                    later[letter] = then
                self.assertEqual(live(more), later[None])
                for letter in range(timetable.letters_per_round * 4):
                    number = letter if letter < more else letter + 1
                    self.assertEqual(live(number), later.get(letter, plain(letter)))

    def test_texts_and_bytes(self):
        for timetable in timetables():
            for other in (parse_timetable(format_timetable(timetable)), decode_timetable(encode_timetable(timetable))):
                self.assertEqual(other, timetable)
                self.assertEqual(other.rows, timetable.rows)
                self.assertEqual(LivePile(other).pass_ticks(50), LivePile(timetable).pass_ticks(50))

    def test_tried_out_and_executed(self):
        for timetable in timetables():
            operations = [("pass_ticks", 9), ("add", 3), ("answer", 2), ("pass_ticks", 30)]
            live = LivePile(timetable)
            lying = live.lying_after(*operations)
            with live:
                live.apply(*operations)
                self.assertEqual(live.lying, lying)
            self.assertEqual([live.lying, live.history], [(), []])
            live.apply(*operations)
            self.assertEqual([live.lying, LivePile.replay(timetable, operations).lying], [lying, lying])


if __name__ == "__main__":
    unittest.main()
