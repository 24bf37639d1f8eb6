"""told: stage, s, a, r, how many wait to go out and to be taken."""

import unittest

from helper import (AGAIN, ALL_STAGES, BIT_FOUR, BUSY, DOWN_STAGE, END, ENDING_STAGE, GREETING_STAGE, HELLO, READY,
                    STUCK_STAGE, UP_STAGE, YES, begin, connect, finish, frame, leading_to, output, reply, send, take,
                    tick, told, told_of)


class Shape(unittest.TestCase):
    def test_0_then_six_numbers(self):
        self.assertEqual(reply(begin(), told()), [0, 0, 0, 0, 0, 0, 0])
        calls = leading_to(UP_STAGE, window=2) + [send([at]) for at in range(5)]
        calls += [frame(3, 0x00, [1]), frame(3, 0x02, [1]), frame(3, 0x04, [1]), take(), frame(1, READY | 0x20)]
        self.assertEqual(reply(*calls, told()), [0, UP_STAGE, 3, 1, 3, 4, 2])

    def test_changes_nothing(self):
        for stage in ALL_STAGES:
            calls = leading_to(stage) + [send([1])]
            self.assertEqual(told_of(*calls, told(), told()), told_of(*calls))

    def test_each_end_by_itself(self):
        calls = [begin(0), begin(1), connect(1), send([1], 0)]
        self.assertEqual(told_of(*calls, end=0), [DOWN_STAGE, 0, 0, 0, 1, 0])
        self.assertEqual(told_of(*calls, end=1), [GREETING_STAGE, 0, 0, 0, 0, 0])


class Stages(unittest.TestCase):
    def test_each(self):
        for side in (0, 1):
            for stage in ALL_STAGES:
                self.assertEqual(told_of(*leading_to(stage, side)), [stage, 0, 0, 0, 0, 0])

    def test_through_all(self):
        steps = [(begin(tries=1, patience=10), DOWN_STAGE), (connect(), GREETING_STAGE), (frame(1, YES), UP_STAGE),
                 (finish(), ENDING_STAGE), (frame(1, YES), DOWN_STAGE), (frame(3, HELLO), UP_STAGE),
                 (frame(3, 0x03), STUCK_STAGE), (frame(3, HELLO), UP_STAGE), (frame(3, END), DOWN_STAGE),
                 (connect(), GREETING_STAGE), (tick(now=10), GREETING_STAGE), (tick(now=20), DOWN_STAGE)]
        calls = []
        for call, stage in steps:
            calls.append(call)
            self.assertEqual(told_of(*calls)[0], stage)


class Numbers(unittest.TestCase):
    def test_s_and_a_go_round(self):
        calls = leading_to(UP_STAGE)
        for at in range(20):
            calls.append(send([at]))
            self.assertEqual(told_of(*calls), [UP_STAGE, (at + 1) % 8, at % 8, 0, 1, 0])
            calls.append(frame(1, READY | (at + 1) % 8 << 5))
            self.assertEqual(told_of(*calls), [UP_STAGE, (at + 1) % 8, (at + 1) % 8, 0, 0, 0])

    def test_s_is_ahead_of_a_by_the_window_at_most(self):
        for window in range(1, 8):
            for ahead in (0, 5):
                calls = leading_to(UP_STAGE, window=window)
                for at in range(ahead):
                    calls += [send([at]), frame(1, READY | (at + 1) % 8 << 5)]
                calls += [send([1])] * 9
                self.assertEqual(told_of(*calls), [UP_STAGE, (ahead + window) % 8, ahead, 0, 9, 0])

    def test_r_goes_round(self):
        calls = leading_to(UP_STAGE)
        for at in range(20):
            calls.append(frame(3, at % 8 << 1, [at]))
            self.assertEqual(told_of(*calls), [UP_STAGE, 0, 0, (at + 1) % 8, 0, at + 1])

    def test_s_is_set_back(self):
        calls = leading_to(UP_STAGE) + [send([at]) for at in range(4)] + [frame(1, BUSY)]
        self.assertEqual(told_of(*calls), [UP_STAGE, 4, 0, 0, 4, 0])
        # The other isn't busy any more by an again, so all goes out at once.
        self.assertEqual(told_of(*calls, frame(1, AGAIN | 0x20)), [UP_STAGE, 4, 1, 0, 3, 0])
        polls = leading_to(UP_STAGE, patience=10) + [send([at]) for at in range(4)] + [tick(now=10)]
        self.assertEqual(told_of(*polls, frame(1, AGAIN | 0x20)), [UP_STAGE, 1, 1, 0, 3, 0])
        self.assertEqual(told_of(*polls, frame(1, BUSY | 0x40 | BIT_FOUR)), [UP_STAGE, 2, 2, 0, 2, 0])

    def test_s_goes_with_a_where_more_is_answered_than_it_was_set_back_to(self):
        calls = leading_to(UP_STAGE, patience=10) + [send([at]) for at in range(4)]
        calls += [tick(now=10), frame(1, AGAIN | 0x20), frame(1, READY | 0x60)]
        self.assertEqual(told_of(*calls), [UP_STAGE, 3, 3, 0, 1, 0])

    def test_afresh_they_are_0(self):
        used = leading_to(UP_STAGE) + [send([1]), send([2]), frame(3, 0x00, [1]), frame(1, READY | 0x20)]
        self.assertEqual(told_of(*used), [UP_STAGE, 2, 1, 1, 1, 1])
        self.assertEqual(told_of(*used, frame(3, HELLO)), [UP_STAGE, 0, 0, 0, 0, 1])
        self.assertEqual(told_of(*used, finish()), [ENDING_STAGE, 0, 0, 0, 0, 1])
        self.assertEqual(told_of(*used, frame(1, 0x87, [1, 2, 3])), [GREETING_STAGE, 0, 0, 0, 0, 1])

    def test_down_and_stuck_they_stay(self):
        used = leading_to(UP_STAGE) + [send([1]), send([2]), frame(3, 0x00, [1]), frame(1, READY | 0x20)]
        self.assertEqual(told_of(*used, frame(3, END)), [DOWN_STAGE, 2, 1, 1, 1, 1])
        self.assertEqual(told_of(*used, frame(3, 0x03)), [STUCK_STAGE, 2, 1, 1, 0, 1])


class HowManyWait(unittest.TestCase):
    def test_to_go_out(self):
        for stage in ALL_STAGES:
            calls = leading_to(stage)
            for at in range(66):
                self.assertEqual(told_of(*calls)[4], min(at, 64))
                calls.append(send([1]))

    def test_a_refused_send_does_not_wait(self):
        self.assertEqual(told_of(begin(), send([])), [DOWN_STAGE, 0, 0, 0, 0, 0])

    def test_sent_and_not_answered_are_counted_in(self):
        calls = leading_to(UP_STAGE, window=2) + [send([at]) for at in range(5)]
        self.assertEqual(told_of(*calls)[4], 5)
        self.assertEqual(told_of(*calls, frame(1, READY | 0x20))[4], 4)
        self.assertEqual(told_of(*calls, frame(1, READY | 0x40))[4], 3)

    def test_when_down_they_count_till_they_are_lost_afresh(self):
        calls = leading_to(UP_STAGE, window=2) + [send([at]) for at in range(5)]
        for down in (frame(3, END), frame(1, 0x0F)):
            self.assertEqual(told_of(*calls, down), [DOWN_STAGE, 2, 0, 0, 5, 0])
            self.assertEqual(told_of(*calls, down, connect()), [GREETING_STAGE, 0, 0, 0, 3, 0])
            # Two of those that had waited go out then.
            self.assertEqual(told_of(*calls, down, frame(3, HELLO)), [UP_STAGE, 2, 0, 0, 3, 0])

    def test_when_stuck_or_ending_they_are_lost(self):
        calls = leading_to(UP_STAGE, window=2) + [send([at]) for at in range(5)]
        self.assertEqual(told_of(*calls, frame(3, 0x03)), [STUCK_STAGE, 2, 0, 0, 3, 0])
        self.assertEqual(told_of(*calls, finish()), [ENDING_STAGE, 0, 0, 0, 3, 0])

    def test_to_be_taken(self):
        calls = leading_to(UP_STAGE) + [frame(3, at % 8 << 1, [at]) for at in range(66)] + [output()]
        self.assertEqual(told_of(*calls)[5], 64)
        self.assertEqual(told_of(*calls, take(), take())[5], 62)

    def test_to_be_taken_stays_in_every_stage(self):
        calls = leading_to(UP_STAGE) + [frame(3, 0x00, [1]), frame(3, 0x02, [2])]
        for call in (frame(3, END), frame(3, HELLO), finish(), frame(3, 0x03), frame(1, 0x87, [1, 2, 3])):
            self.assertEqual(told_of(*calls, call)[5], 2)
        self.assertEqual(told_of(*calls, begin())[5], 0)


if __name__ == "__main__":
    unittest.main()
