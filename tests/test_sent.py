"""The bits that wait to be sent."""

import unittest

from linekept.frames import check_sum, frame_bits, least_frame_bits
from linekept.outbox import MOST_BITS_WAITING, Outbox
from helper import AGAIN, FLAG, HELLO, Probe, framed, in_stage, sum_of, unframed, up


class Sum(unittest.TestCase):
    def test_the_known_value(self):
        self.assertEqual(check_sum([ord(sign) for sign in "123456789"]), 0x906E)

    def test_is_that_of_the_polynomial(self):
        for data in ([], [0], [255], list(range(256)), [3, 0x2F], [170] * 1026, [255] * 1026):
            low, high = sum_of(data)
            self.assertEqual(check_sum(data), low | high << 8)
        for byte in range(256):
            self.assertEqual([check_sum([byte]) & 255, check_sum([byte]) >> 8], sum_of([byte]))


class Frames(unittest.TestCase):
    bodies = ([1, 0x3F], [3, 0x73], [1, 0, 255], [1, 0, 31, 248], [1, 0] + [255] * 1024, [1, 0] + list(range(256)) * 4)

    def test_a_frame_written_out(self):
        # The hello that asks, with its sum: two 0s are put in, each behind five 1s.
        self.assertEqual(sum_of([1, 0x3F]), [0xEB, 0xDF])
        self.assertEqual(frame_bits([1, 0x3F]),
                         "01111110" "10000000" "11111" "0" "100" "11010111" "11" "0" "111011" "01111110")

    def test_flag_frame_flag_with_zeros_put_in(self):
        for body in self.bodies:
            self.assertEqual(frame_bits(body), framed(body))
            self.assertEqual(unframed(frame_bits(body)), body)
            self.assertNotIn("111111", frame_bits(body)[8:-8])

    def test_the_least_size(self):
        self.assertEqual(least_frame_bits([1, 2]), 48)
        for body in self.bodies:
            self.assertLessEqual(least_frame_bits(body), len(frame_bits(body)))

    def test_frames_wait_in_order_each_with_both_its_flags(self):
        probe = up()
        probe.send(1)
        probe.send(2)
        text = "".join(probe.end.outbox.frames)
        self.assertEqual(text, framed([1, 0x00, 1]) + framed([1, 0x02, 2]))
        self.assertIn(FLAG + FLAG, text)
        self.assertEqual(probe.end.outbox.size, len(text))


class Room(unittest.TestCase):
    def filled(self, free):
        box = Outbox()
        box.size = MOST_BITS_WAITING - free
        return box

    def test_how_many_bits_wait_at_most(self):
        self.assertEqual(MOST_BITS_WAITING, 1048576)

    def test_a_frame_that_just_fits(self):
        for body in ([3, 0x63], [1, 0] + [0] * 1024, [1, 0] + [255] * 1024):
            size = len(framed(body))
            box = self.filled(size)
            box.put_frame(body)
            self.assertEqual((box.frames, box.size), ([framed(body)], MOST_BITS_WAITING))

    def test_a_frame_that_does_not_fit_whole_is_lost(self):
        for body in ([3, 0x63], [1, 0] + [0] * 1024, [1, 0] + [255] * 1024):
            for missing in (1, 2, 40):
                box = self.filled(len(framed(body)) - missing)
                box.put_frame(body)
                self.assertEqual((box.frames, box.size), ([], MOST_BITS_WAITING - len(framed(body)) + missing))

    def test_a_smaller_one_behind_it_still_fits(self):
        box = self.filled(100)
        box.put_frame([1, 0] + [0] * 1024)
        box.put_frame([3, 0x63])
        self.assertEqual(box.frames, [framed([3, 0x63])])

    def test_a_new_line_is_empty(self):
        probe = Probe()
        self.assertEqual(probe.end.outbox.size, 0)
        probe.connect()
        self.assertEqual(probe.end.outbox.size, len(framed([1, 0x3F])))

    def test_what_cannot_fit_is_not_built(self):
        body = [1, 0] + [0] * 1024
        box = self.filled(least_frame_bits(body) - 1)
        box.put_frame(body)
        self.assertEqual(box.built, {})

    def test_what_is_built_again_and_again_is_built_once(self):
        box = Outbox()
        self.assertIs(box.text_of([1, 0, 1, 2]), box.text_of([1, 0, 1, 2]))

    def test_each_frame_is_built_of_its_own_bytes(self):
        box = Outbox()
        bodies = [[1, 0, 1], [1, 0, 2], [3, 0, 1], [1, 0, 1], [1, 0x20, 1], [1, 0, 1, 1]]
        for body in bodies:
            box.put_frame(body)
        self.assertEqual(box.frames, [framed(body) for body in bodies])

    def test_a_lost_frame_counts_as_sent(self):
        probe = up()
        probe.end.outbox.size = MOST_BITS_WAITING
        self.assertEqual(probe.send(1, now=4), 0)
        self.assertEqual((probe.numbers(), probe.end.sent_count, probe.clock()), ((1, 0, 0), 1, 4))
        self.assertEqual(probe.sent(), [])

    def test_a_full_line_refuses_no_call(self):
        probe = in_stage(0)
        probe.end.outbox.size = MOST_BITS_WAITING
        self.assertEqual((probe.connect(), probe.end.stage), (0, 1))
        probe.hear([1, 0x63])
        probe.end.outbox.size = MOST_BITS_WAITING
        self.assertEqual((probe.finish(), probe.end.stage), (0, 3))


class AskedAgainAndAgain(unittest.TestCase):
    def test_long_messages_asked_for_thousands_of_times(self):
        probe = Probe()
        probe.hear([3, HELLO])
        for _ in range(7):
            probe.send(*[255] * 1024)
        text = framed([1, AGAIN])[:-8]
        found = probe.hear_bits(text * 2000 + FLAG)
        one_by_one = [[1, number << 1] + [255] * 1024 for number in range(7)]
        self.assertEqual(found[:21], one_by_one * 3)
        self.assertEqual(len(found), MOST_BITS_WAITING // len(framed(one_by_one[0])))


if __name__ == "__main__":
    unittest.main()
