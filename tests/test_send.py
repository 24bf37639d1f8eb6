import unittest

from helper import (ALL_STAGES, END, HELLO, LATEST, READY, UP_STAGE, YES, Probe, begin, connect, finish, firsts, frame,
                    in_stage, last, send, up)


class Sizes(unittest.TestCase):
    def test_one_byte_and_1024(self):
        for size in (1, 2, 1023, 1024):
            self.assertEqual(last(begin(), send([255] * size)), 0)

    def test_none(self):
        self.assertEqual(last(begin(), send([])), -2)

    def test_none_changes_nothing(self):
        calls = [begin()] + [send([1])] * 63 + [send([])] * 5
        self.assertEqual(firsts(*calls, send([1]), send([1]))[-2:], [0, -4])

    def test_more_than_1024(self):
        self.assertEqual(Probe().send(*[1] * 1025), -2)

    def test_message_goes_out_as_it_is(self):
        for message in ([0], [255], [0x7E, 0x7E], list(range(256)) * 4, [255] * 1024):
            probe = up()
            self.assertEqual(probe.send(*message), 0)
            self.assertEqual(probe.sent(), [[1, 0x00] + message])


class HowManyWait(unittest.TestCase):
    def test_the_64th_and_the_65th(self):
        self.assertEqual(firsts(begin(), *[send([1])] * 66), [0] * 65 + [-4, -4])

    def test_size_is_refused_ahead_of_the_number(self):
        self.assertEqual(last(begin(), *[send([1])] * 64, send([])), -2)

    def test_sent_and_not_answered_are_counted_in(self):
        self.assertEqual(firsts(begin(), frame(3, HELLO), *[send([1])] * 65)[-2:], [0, -4])

    def test_answered_ones_are_not(self):
        calls = [begin(), frame(3, HELLO)] + [send([1])] * 64
        # The seven of the window have been sent; three of them are answered.
        calls += [frame(1, READY | 3 << 5)] + [send([1])] * 4
        self.assertEqual(firsts(*calls)[-4:], [0, 0, 0, -4])

    def test_sent_ones_count_when_down_till_it_greets(self):
        calls = [begin(window=4), frame(3, HELLO)] + [send([1])] * 64 + [frame(3, END)]
        self.assertEqual(last(*calls, send([1])), -4)
        self.assertEqual(firsts(*calls, connect(), *[send([1])] * 5)[-6:], [0] * 5 + [-4])

    def test_sent_ones_count_when_down_till_the_other_greets(self):
        calls = [begin(window=4), frame(3, HELLO)] + [send([1])] * 64 + [frame(1, 0x0F)]
        self.assertEqual(last(*calls, send([1])), -4)
        self.assertEqual(firsts(*calls, frame(3, HELLO), *[send([1])] * 5)[-6:], [0] * 5 + [-4])

    def test_sent_ones_are_lost_when_it_finishes(self):
        calls = [begin(window=4), frame(3, HELLO)] + [send([1])] * 64 + [finish()]
        self.assertEqual(firsts(*calls, *[send([1])] * 5)[-5:], [0] * 4 + [-4])

    def test_sent_ones_are_lost_when_it_is_stuck(self):
        calls = [begin(window=4), frame(3, HELLO)] + [send([1])] * 64 + [frame(3, 0x03)]
        self.assertEqual(firsts(*calls, *[send([1])] * 5)[-5:], [0] * 4 + [-4])


class GoesOut(unittest.TestCase):
    def test_only_when_up(self):
        for stage in ALL_STAGES:
            probe = in_stage(stage)
            clock = probe.clock()
            self.assertEqual(probe.send(7), 0)
            self.assertEqual(probe.sent(), [[1, 0x00, 7]] if stage == UP_STAGE else [])
            self.assertEqual(probe.end.leaving, [[7]])
            if stage != UP_STAGE:
                self.assertEqual(probe.clock(), clock)

    def test_what_waited_goes_out_when_up(self):
        for greeted in (True, False):
            probe = Probe(window=3)
            for at in range(4):
                probe.send(at)
            probe.connect()
            probe.sent()
            numbered = [[1, at << 1, at] for at in range(3)]
            if greeted:
                self.assertEqual(probe.command(HELLO), [[3, YES]] + numbered)
            else:
                self.assertEqual(probe.answer(YES), numbered)

    def test_address_number_and_next_awaited(self):
        for side, address in ((0, 1), (1, 3)):
            probe = up(side=side)
            probe.command(0x00, [5])
            probe.command(0x02, [6])
            for at in range(3):
                probe.send(at)
            self.assertEqual(probe.sent(), [[address, 2 << 5 | at << 1, at] for at in range(3)])

    def test_the_clock_begins_with_the_first_and_runs_on(self):
        probe = up()
        probe.send(1, now=LATEST)
        probe.send(2, now=0)
        self.assertEqual(probe.clock(), LATEST)

    def test_beyond_the_window_it_waits(self):
        probe = up(window=1)
        probe.send(1)
        probe.send(2)
        self.assertEqual(probe.sent(), [[1, 0x00, 1]])
        self.assertEqual(probe.numbers(), (1, 0, 0))
        self.assertEqual((probe.end.leaving, probe.end.sent_count), ([[1], [2]], 1))

    def test_not_while_the_other_is_busy(self):
        probe = up()
        probe.answer(0x05)
        probe.send(1)
        self.assertEqual((probe.sent(), probe.clock()), ([], None))
        self.assertEqual(probe.answer(READY, now=8), [[1, 0x00, 1]])
        self.assertEqual(probe.clock(), 8)

    def test_not_while_it_polls(self):
        probe = up()
        probe.end.polls = True
        probe.send(1)
        self.assertEqual(probe.sent(), [])
        self.assertEqual(probe.answer(READY), [])
        self.assertEqual(probe.answer(READY | 0x10), [[1, 0x00, 1]])


if __name__ == "__main__":
    unittest.main()
