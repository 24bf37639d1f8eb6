import unittest

from helper import HELLO, LATEST, Probe, begin, bits, connect, finish, firsts, frame, framed, last, send, stage_seen

LEAST, MOST = -2147483648, 2147483647


class Bounds(unittest.TestCase):
    def refused_outside(self, name, good, bad):
        for value in good:
            self.assertEqual(firsts(begin(**{name: value})), [0], (name, value))
        for value in bad:
            self.assertEqual(firsts(begin(**{name: value})), [-2], (name, value))

    def test_side(self):
        self.refused_outside("side", (0, 1), (LEAST, -1, 2, 3, MOST))

    def test_window(self):
        self.refused_outside("window", range(1, 8), (LEAST, -1, 0, 8, 9, MOST))

    def test_patience(self):
        self.refused_outside("patience", (1, 2, 1000, LATEST - 1, LATEST), (0,))

    def test_tries(self):
        self.refused_outside("tries", (1, 2, 99, 100), (LEAST, -1, 0, 101, 102, MOST))

    def test_all_at_their_bounds_at_once(self):
        self.assertEqual(firsts(begin(0, 1, 7, LATEST, 100), begin(1, 0, 1, 1, 1)), [0, 0])
        self.assertEqual(firsts(begin(0, 2, 8, 0, 101), begin(1, -1, 0, 0, 0)), [-2, -2])


class NewEnd(unittest.TestCase):
    def test_is_down_and_nothing_waits(self):
        end = Probe(side=1, window=3, patience=77, tries=9).end
        self.assertEqual((end.stage, end.leaving, end.arrived, end.outbox.frames), (0, [], [], []))
        self.assertEqual((end.window, end.patience, end.tries), (3, 77, 9))
        self.assertFalse(end.clock_runs)

    def test_the_window_is_the_one_told(self):
        for window in range(1, 8):
            probe = Probe(window=window)
            probe.command(HELLO)
            for at in range(10):
                probe.send(at)
            self.assertEqual(len(probe.sent()), window)

    def test_side_tells_the_addresses(self):
        # Side 0 hears commands with 3, side 1 with 1.
        for side, hears, other in ((0, 3, 1), (1, 1, 3)):
            self.assertEqual(stage_seen(begin(side=side), frame(hears, HELLO)), "up")
            self.assertEqual(stage_seen(begin(side=side), frame(other, HELLO)), "down")


class BeginAgain(unittest.TestCase):
    def test_is_down_again(self):
        for calls in ([connect()], [frame(3, HELLO)], [frame(3, HELLO), finish()], [frame(3, HELLO), frame(3, 0x03)]):
            self.assertEqual(stage_seen(begin(), *calls, begin()), "down")

    def test_nothing_waits_any_more(self):
        full = [send([1])] * 64
        self.assertEqual(firsts(begin(), *full, begin(), *full, send([1])), [0] * 130 + [-4])

    def test_what_has_been_heard_of_a_frame_is_gone(self):
        text = framed([3, HELLO])
        self.assertEqual(stage_seen(begin(), bits(text[:30]), begin(), bits(text[30:])), "down")

    def test_takes_the_new_side(self):
        self.assertEqual(stage_seen(begin(side=0), begin(side=1), frame(1, HELLO)), "up")
        self.assertEqual(stage_seen(begin(side=0), begin(side=1), frame(3, HELLO)), "down")


class RefusedBegin(unittest.TestCase):
    refused = [begin(side=2), begin(window=8), begin(patience=0), begin(tries=101)]

    def test_leaves_the_stage(self):
        for call in self.refused:
            self.assertEqual(firsts(begin(), connect(), call, connect()), [0, 0, -2, -3])
            self.assertEqual(stage_seen(begin(), frame(3, HELLO), call), "up")

    def test_leaves_what_waits(self):
        for call in self.refused:
            self.assertEqual(last(begin(), *[send([1])] * 64, call, send([1])), -4)

    def test_leaves_side_and_what_has_been_heard(self):
        text = framed([3, HELLO])
        call = begin(side=1, window=0)
        self.assertEqual(stage_seen(begin(), bits(text[:30]), call, bits(text[30:])), "up")


if __name__ == "__main__":
    unittest.main()
