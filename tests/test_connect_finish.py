import unittest

from helper import (ALL_STAGES, BIT_FOUR, DOWN_STAGE, END, ENDING_STAGE, GREETING_STAGE, HELLO, LATEST, UP_STAGE, YES,
                    Probe, begin, connect, finish, firsts, frame, in_stage, up)


class Connect(unittest.TestCase):
    def test_greets_with_a_hello_that_asks(self):
        for side, address in ((0, 1), (1, 3)):
            probe = Probe(side=side)
            self.assertEqual(probe.connect(now=5), 0)
            self.assertEqual(probe.sent(), [[address, HELLO | BIT_FOUR]])
            self.assertEqual(probe.end.stage, GREETING_STAGE)

    def test_the_clock_runs_from_now_out_no_times(self):
        for now in (0, 1, 2147483648, LATEST):
            probe = Probe()
            probe.end.times_out = 3
            probe.connect(now=now)
            self.assertEqual((probe.clock(), probe.end.times_out), (now, 0))

    def test_refused_in_all_stages_but_down(self):
        for stage in ALL_STAGES:
            probe = in_stage(stage)
            clock = probe.clock()
            self.assertEqual(probe.connect(now=9), 0 if stage == DOWN_STAGE else -3)
            if stage != DOWN_STAGE:
                self.assertEqual((probe.end.stage, probe.clock(), probe.sent()), (stage, clock, []))

    def test_the_numbers_are_afresh(self):
        probe = up(window=7)
        probe.send(1)
        probe.command(0x00, [5])
        probe.command(BIT_FOUR | END)
        self.assertEqual(probe.numbers(), (1, 0, 1))
        probe.connect()
        self.assertEqual(probe.numbers(), (0, 0, 0))

    def test_answers(self):
        self.assertEqual(firsts(begin(), connect(), connect(), finish()), [0, 0, -3, -3])
        self.assertEqual(firsts(begin(), frame(3, HELLO), connect()), [0, 0, -3])


class Finish(unittest.TestCase):
    def test_ends_with_an_end_that_asks(self):
        for side, address in ((0, 1), (1, 3)):
            probe = up(side=side)
            self.assertEqual(probe.finish(now=5), 0)
            self.assertEqual(probe.sent(), [[address, END | BIT_FOUR]])
            self.assertEqual(probe.end.stage, ENDING_STAGE)

    def test_refused_in_all_stages_but_up(self):
        for stage in ALL_STAGES:
            probe = in_stage(stage)
            clock = probe.clock()
            self.assertEqual(probe.finish(now=9), 0 if stage == UP_STAGE else -3)
            if stage != UP_STAGE:
                self.assertEqual((probe.end.stage, probe.clock(), probe.sent()), (stage, clock, []))

    def test_the_clock_runs_anew_out_no_times(self):
        for now in (0, LATEST):
            probe = up()
            probe.send(1, now=77)
            probe.end.times_out = 3
            probe.finish(now=now)
            self.assertEqual((probe.clock(), probe.end.times_out), (now, 0))

    def test_all_is_afresh(self):
        probe = up(window=2)
        for at in range(5):
            probe.send(at)
        probe.command(0x00, [5])
        probe.command(0x05)
        probe.command(0x00, [6])
        end = probe.end
        self.assertTrue(end.other_busy and end.again_asked)
        end.polls = True
        probe.finish()
        self.assertEqual(probe.numbers(), (0, 0, 0))
        self.assertFalse(end.other_busy or end.again_asked or end.polls)
        # The two that had been sent are lost, the others wait; so does what is to be taken.
        self.assertEqual((end.leaving, end.sent_count, end.arrived), ([[2], [3], [4]], 0, [[5]]))

    def test_what_waits_goes_out_when_it_is_up_again(self):
        probe = up(window=2)
        for at in range(5):
            probe.send(at)
        probe.finish()
        probe.answer(YES | BIT_FOUR)
        self.assertEqual(probe.end.stage, DOWN_STAGE)
        probe.connect()
        probe.sent()
        self.assertEqual(probe.answer(YES | BIT_FOUR), [[1, 0x00, 2], [1, 0x02, 3]])


if __name__ == "__main__":
    unittest.main()
