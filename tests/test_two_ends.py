"""Two ends that hear each other over one line."""

import unittest

from linekept import ends
from helper import UP_STAGE, Probe, packed


def carry(from_probe, to_probe, filler=""):
    text = filler.join(from_probe.end.outbox.frames)
    from_probe.sent()
    ends.bits(to_probe.end, len(text), packed(text), 0)


def carry_all(one, two):
    while one.end.outbox.frames or two.end.outbox.frames:
        carry(one, two, "1" * 11)
        carry(two, one)


class BothWays(unittest.TestCase):
    def test_messages_come_in_order(self):
        for window in (1, 3, 7):
            one, two = Probe(side=0, window=window), Probe(side=1, window=2)
            one.connect()
            carry_all(one, two)
            self.assertEqual((one.end.stage, two.end.stage), (UP_STAGE, UP_STAGE))
            leaving = [[at % 256] * (at * 17 % 1024 + 1) for at in range(60)]
            for message in leaving:
                one.send(*message)
                two.send(*message[::-1], 1)
            carry_all(one, two)
            self.assertEqual(two.end.arrived, leaving)
            self.assertEqual(one.end.arrived, [message + [1] for message in leaving])
            self.assertEqual((one.clock(), two.clock(), one.end.leaving, two.end.leaving), (None, None, [], []))

    def test_a_lost_frame_is_asked_for_again(self):
        one, two = Probe(side=0), Probe(side=1)
        one.connect()
        carry_all(one, two)
        for at in range(6):
            one.send(at)
        one.end.outbox.frames = one.end.outbox.frames[:2] + one.end.outbox.frames[3:]
        carry_all(one, two)
        self.assertEqual(two.end.arrived, [[at] for at in range(6)])

    def test_both_connect_at_once(self):
        one, two = Probe(side=0), Probe(side=1)
        one.connect()
        two.connect()
        carry_all(one, two)
        self.assertEqual((one.end.stage, two.end.stage), (UP_STAGE, UP_STAGE))

    def test_one_finishes(self):
        one, two = Probe(side=0), Probe(side=1)
        one.connect()
        carry_all(one, two)
        two.finish()
        carry_all(one, two)
        self.assertEqual((one.end.stage, two.end.stage), (0, 0))


if __name__ == "__main__":
    unittest.main()
