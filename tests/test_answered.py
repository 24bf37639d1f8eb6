"""Answered up to: what is known to have come, the window, and the clock with it."""

import unittest

from helper import AGAIN, BIT_FOUR, BUSY, LATEST, READY, STUCK_STAGE, UP_STAGE, WRONG, firsts, begin, frame, send, up


def with_sent(count, window=7, ahead=0):
    """An up end that has sent and not answered `count` messages from number `ahead` on."""
    probe = up(window=window)
    for at in range(ahead):
        probe.send(at)
        probe.answer(READY | (at + 1) % 8 << 5)
    for at in range(count):
        probe.send(100 + at, now=50)
    probe.sent()
    return probe


class UpTo(unittest.TestCase):
    def test_each_number_that_may_be_and_each_that_may_not(self):
        for ahead in (0, 3, 6, 7, 20):
            for count in range(8):
                for step in range(8):
                    probe = with_sent(count, ahead=ahead)
                    number = (ahead + step) % 8
                    found = probe.answer(READY | number << 5)
                    if step > count:
                        self.assertEqual(probe.end.stage, STUCK_STAGE)
                        self.assertEqual(found[0][1] & 0xEF, WRONG)
                        self.assertEqual(found[0][-1], 8)
                    else:
                        self.assertEqual((found, probe.end.stage), ([], UP_STAGE))
                        self.assertEqual(probe.end.leaving, [[100 + at] for at in range(step, count)])
                        self.assertEqual(probe.numbers()[:2], ((ahead + count) % 8, number))

    def test_what_waits_unsent_is_not_answered(self):
        probe = with_sent(5, window=2)
        probe.answer(READY | 3 << 5)
        self.assertEqual(probe.end.stage, STUCK_STAGE)

    def test_the_window_moves(self):
        probe = with_sent(5, window=2)
        self.assertEqual(probe.answer(READY | 1 << 5), [[1, 0x04, 102]])
        self.assertEqual(probe.answer(READY | 3 << 5), [[1, 0x06, 103], [1, 0x08, 104]])

    def test_numbers_sent_go_round(self):
        probe = up(window=3)
        for at in range(40):
            probe.send(at)
            self.assertEqual(probe.sent(), [[1, at % 8 << 1, at]])
            probe.answer(READY | (at + 1) % 8 << 5)
        self.assertEqual(probe.numbers(), (0, 0, 0))

    def test_by_calls(self):
        calls = [begin(), frame(3, 0x2F)]
        for at in range(60):
            calls += [send([at]), frame(1, READY | (at + 1) % 8 << 5)]
        self.assertEqual(firsts(*calls, *[send([1])] * 65)[-2:], [0, -4])


class BehindAnAgain(unittest.TestCase):
    def test_s_is_set_ahead_where_more_has_been_answered(self):
        probe = with_sent(5)
        probe.command(BUSY)
        probe.end.next_number = 1
        probe.answer(BUSY | 4 << 5)
        self.assertEqual((probe.numbers(), probe.end.leaving), ((4, 4, 0), [[104]]))

    def test_s_stays_where_less_has_been_answered(self):
        probe = with_sent(5)
        probe.end.other_busy = True
        probe.end.next_number = 3
        probe.answer(BUSY | 2 << 5)
        self.assertEqual(probe.numbers(), (3, 2, 0))

    def test_what_was_sent_ahead_of_it_may_still_be_answered(self):
        probe = with_sent(5)
        probe.end.polls = True
        probe.answer(AGAIN | 1 << 5)
        self.assertEqual((probe.numbers(), probe.end.sent_count), ((1, 1, 0), 4))
        self.assertEqual(probe.answer(READY | 5 << 5), [])
        self.assertEqual((probe.end.stage, probe.end.leaving, probe.numbers()), (UP_STAGE, [], (5, 5, 0)))

    def test_but_no_more_than_that(self):
        probe = with_sent(5)
        probe.end.polls = True
        probe.answer(AGAIN | 1 << 5)
        probe.answer(READY | 6 << 5)
        self.assertEqual(probe.end.stage, STUCK_STAGE)

    def test_sent_again_is_counted_once(self):
        probe = with_sent(3)
        self.assertEqual(len(probe.answer(AGAIN)), 3)
        self.assertEqual(probe.end.sent_count, 3)
        probe.send(9)
        self.assertEqual(probe.end.sent_count, 4)

    def test_again_goes_round(self):
        probe = with_sent(5, ahead=6)
        self.assertEqual(probe.answer(AGAIN | 1 << 5), [[1, 0x02, 103], [1, 0x04, 104]])


class Clock(unittest.TestCase):
    def test_runs_anew_where_something_is_not_answered(self):
        probe = with_sent(3)
        probe.end.times_out = 2
        probe.answer(READY | 1 << 5, now=80)
        self.assertEqual((probe.clock(), probe.end.times_out), (80, 0))

    def test_stops_where_all_is_answered(self):
        probe = with_sent(3)
        probe.end.times_out = 2
        probe.answer(READY | 3 << 5, now=80)
        self.assertEqual((probe.clock(), probe.end.times_out), (None, 0))

    def test_runs_on_where_nothing_more_is_answered(self):
        for control in (READY, BUSY, AGAIN, READY | BIT_FOUR):
            probe = with_sent(3)
            probe.end.times_out = 2
            probe.answer(control, now=80)
            self.assertEqual((probe.clock(), probe.end.times_out), (50, 2))

    def test_runs_anew_where_only_what_was_set_back_is_not_answered(self):
        probe = with_sent(3)
        probe.end.polls = True
        probe.answer(BUSY | 1 << 5 | BIT_FOUR, now=LATEST)
        self.assertEqual((probe.numbers(), probe.clock()), ((1, 1, 0), LATEST))

    def test_runs_from_what_goes_out_when_all_before_was_answered(self):
        probe = with_sent(2, window=1)
        self.assertEqual(len(probe.answer(READY | 1 << 5, now=LATEST)), 1)
        self.assertEqual(probe.clock(), LATEST)
        probe.answer(READY | 2 << 5, now=0)
        self.assertIsNone(probe.clock())
        probe.send(1, now=1)
        self.assertEqual(probe.clock(), 1)

    def test_does_not_run_for_what_only_waits(self):
        probe = with_sent(2)
        probe.send(1)
        probe.answer(BUSY | 3 << 5)
        probe.send(2, now=9)
        self.assertIsNone(probe.clock())


if __name__ == "__main__":
    unittest.main()
