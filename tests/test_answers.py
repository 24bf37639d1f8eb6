"""Answers in every stage. Side 0 gets them with address 1."""

import unittest

from helper import (AGAIN, ALL_STAGES, BIT_FOUR, BUSY, DOWN, DOWN_STAGE, ENDING_STAGE, GREETING_STAGE, HELLO, LATEST,
                    READY, STUCK_STAGE, UP_STAGE, WRONG, YES, in_stage, up)


class Yes(unittest.TestCase):
    def test_in_every_stage(self):
        behind = {GREETING_STAGE: UP_STAGE, ENDING_STAGE: DOWN_STAGE}
        for stage in ALL_STAGES:
            for final in (0, BIT_FOUR):
                probe = in_stage(stage)
                self.assertEqual(probe.answer(YES | final), [])
                self.assertEqual((probe.end.stage, probe.clock()), (behind.get(stage, stage), None))

    def test_when_up_nothing_is_afresh(self):
        probe = up()
        probe.send(1)
        probe.command(0x00, [1])
        probe.answer(YES | BIT_FOUR)
        self.assertEqual((probe.numbers(), probe.clock(), probe.end.sent_count), ((1, 0, 1), 0, 1))

    def test_when_greeting_all_is_afresh(self):
        probe = in_stage(GREETING_STAGE)
        probe.end.times_out = 3
        probe.answer(YES)
        self.assertEqual((probe.numbers(), probe.end.times_out, probe.clock()), ((0, 0, 0), 0, None))

    def test_when_greeting_what_waits_goes_out(self):
        probe = in_stage(GREETING_STAGE)
        probe.send(9)
        self.assertEqual(probe.answer(YES, now=LATEST), [[1, 0x00, 9]])
        self.assertEqual(probe.clock(), LATEST)


class Down(unittest.TestCase):
    def test_in_every_stage(self):
        for stage in ALL_STAGES:
            for final in (0, BIT_FOUR):
                probe = in_stage(stage)
                self.assertEqual(probe.answer(DOWN | final), [])
                self.assertEqual((probe.end.stage, probe.clock()), (DOWN_STAGE, None))

    def test_when_up_sent_ones_still_count(self):
        probe = up(window=2)
        for at in range(5):
            probe.send(at)
        probe.answer(DOWN)
        self.assertEqual((len(probe.end.leaving), probe.end.sent_count, probe.clock()), (5, 2, None))


class Wrong(unittest.TestCase):
    def test_when_up_it_greets(self):
        for final in (0, BIT_FOUR):
            probe = up(window=1)
            probe.send(1)
            probe.send(2)
            probe.command(0x00, [5])
            probe.end.times_out = 3
            probe.sent()
            self.assertEqual(probe.answer(WRONG | final, [1, 2, 3], now=70), [[1, HELLO | BIT_FOUR]])
            self.assertEqual((probe.end.stage, probe.clock(), probe.end.times_out), (GREETING_STAGE, 70, 0))
            self.assertEqual((probe.numbers(), probe.end.leaving), ((0, 0, 0), [[2]]))

    def test_in_other_stages_nothing(self):
        for stage in ALL_STAGES:
            if stage == UP_STAGE:
                continue
            probe = in_stage(stage)
            clock = probe.clock()
            self.assertEqual(probe.answer(WRONG, [1, 2, 3], now=9), [])
            self.assertEqual((probe.end.stage, probe.clock()), (stage, clock))


class Reports(unittest.TestCase):
    def test_in_other_stages_nothing(self):
        for stage in ALL_STAGES:
            if stage == UP_STAGE:
                continue
            for control in (READY, BUSY, AGAIN, READY | 0xE0, BUSY | BIT_FOUR):
                probe = in_stage(stage)
                clock = probe.clock()
                self.assertEqual(probe.answer(control, now=9), [])
                self.assertEqual((probe.end.stage, probe.clock(), probe.end.other_busy), (stage, clock, False))

    def test_f_is_not_answered(self):
        for control in (READY, BUSY, AGAIN):
            for final in (0, BIT_FOUR):
                self.assertEqual(up().answer(control | final), [])

    def test_the_other_is_busy_just_by_busy(self):
        for control, busy in ((READY, False), (AGAIN, False), (BUSY, True)):
            probe = up()
            probe.answer(BUSY)
            self.assertTrue(probe.end.other_busy)
            probe.answer(control)
            self.assertEqual(probe.end.other_busy, busy)

    def test_busy_answers_too_but_nothing_goes_out(self):
        probe = up(window=2)
        for at in range(4):
            probe.send(at)
        probe.sent()
        self.assertEqual(probe.answer(BUSY | 0x20), [])
        self.assertEqual((probe.end.leaving, probe.numbers()), ([[1], [2], [3]], (2, 1, 0)))
        self.assertEqual(probe.answer(READY | 0x20), [[1, 0x04, 2]])

    def test_again_sends_again(self):
        probe = up(window=3)
        for at in range(5):
            probe.send(at)
        probe.sent()
        self.assertEqual(probe.answer(AGAIN | 0x20), [[1, at << 1, at] for at in (1, 2, 3)])

    def test_f_while_it_polls_sends_again(self):
        for control in (READY, AGAIN):
            probe = up(window=3)
            for at in range(5):
                probe.send(at)
            probe.end.polls = True
            probe.sent()
            self.assertEqual(probe.answer(control | 0x20 | BIT_FOUR), [[1, at << 1, at] for at in (1, 2, 3)])
            self.assertFalse(probe.end.polls)

    def test_busy_with_f_while_it_polls_sets_s_back(self):
        probe = up()
        probe.send(1)
        probe.end.polls = True
        probe.sent()
        self.assertEqual(probe.answer(BUSY | BIT_FOUR), [])
        self.assertEqual((probe.numbers(), probe.end.polls, probe.end.sent_count), ((0, 0, 0), False, 1))

    def test_f_while_it_does_not_poll_leaves_s(self):
        probe = up()
        probe.send(1)
        probe.sent()
        self.assertEqual(probe.answer(READY | BIT_FOUR), [])
        self.assertEqual(probe.numbers(), (1, 0, 0))

    def test_without_f_it_polls_on(self):
        for control in (READY, BUSY):
            probe = up()
            probe.send(1)
            probe.end.polls = True
            probe.answer(control)
            self.assertEqual((probe.end.polls, probe.numbers()), (True, (1, 0, 0)))

    def test_again_without_f_while_it_polls_sets_s_back(self):
        probe = up()
        probe.send(1)
        probe.end.polls = True
        probe.sent()
        self.assertEqual(probe.answer(AGAIN), [])
        self.assertEqual((probe.numbers(), probe.end.polls), ((0, 0, 0), True))


class StuckStays(unittest.TestCase):
    def test_by_answers_but_down(self):
        for control, data in ((YES, []), (WRONG, [1, 2, 3]), (READY, []), (0x00, [1]), (0x03, [])):
            probe = in_stage(STUCK_STAGE)
            self.assertEqual(probe.answer(control | BIT_FOUR, data), [])
            self.assertEqual(probe.end.stage, STUCK_STAGE)


if __name__ == "__main__":
    unittest.main()
