"""output: what's to be sent, in whole bytes."""

import unittest

from helper import (AGAIN, BIT_FOUR, FLAG, HELLO, READY, UP_STAGE, YES, all_framed, begin, bits, bytes_out, connect,
                    frame, framed, inside, leading_to, output, packed, plain_bits, replies, reply, send, sent_bytes,
                    sum_of, told_of)

LIMIT = 1048576
HELLO_SENT = [begin(), connect()]
HELLO_BYTES = [0x7E, 0x01, 0x5F, 0xD6, 0x77, 0xFB, 0xFD]


def answers_of(calls, mosts):
    """What outputs of these sizes, one behind another, hand out behind the calls."""
    found = replies(*calls, *[output(most) for most in mosts])[len(calls):]
    for answer, most in zip(found, mosts):
        assert answer[0] == len(answer) - 1 <= most, answer
    return [answer[1:] for answer in found]


class Most(unittest.TestCase):
    def test_refused(self):
        for calls in ([begin()], HELLO_SENT):
            for most in (-1, -2147483648, 65537, 2147483647):
                self.assertEqual(reply(*calls, output(most)), [-2])

    def test_a_refusal_changes_nothing(self):
        for most in (-1, 65537):
            self.assertEqual(bytes_out(*HELLO_SENT, output(most)), HELLO_BYTES)

    def test_none_asked_for(self):
        self.assertEqual(reply(*HELLO_SENT, output(0)), [0])
        self.assertEqual(bytes_out(*HELLO_SENT, output(0)), HELLO_BYTES)

    def test_nothing_to_be_sent(self):
        for most in (0, 1, 65536):
            self.assertEqual(reply(begin(), output(most)), [0])
            self.assertEqual(reply(*HELLO_SENT, output(), output(most)), [0])

    def test_as_many_as_are_asked_for(self):
        for most in range(8):
            self.assertEqual(reply(*HELLO_SENT, output(most)), [most] + HELLO_BYTES[:most])
        for most in (7, 8, 65535, 65536):
            self.assertEqual(reply(*HELLO_SENT, output(most)), [7] + HELLO_BYTES)


class WholeBytes(unittest.TestCase):
    def test_a_frame_written_out(self):
        # Two 0s are put in; the 50 bits are filled up by six 1s.
        text = "01111110" "10000000" "11111" "0" "100" "11010111" "11" "0" "111011" "01111110"
        self.assertEqual(packed(text + "111111"), HELLO_BYTES)
        self.assertEqual(bytes_out(*HELLO_SENT), HELLO_BYTES)

    def test_each_number_of_bits_left_over(self):
        over = set()
        for value in range(256):
            calls = leading_to(UP_STAGE) + [send([31, value])]
            text = framed([1, 0x00, 31, value])
            over.add(len(text) % 8)
            self.assertEqual(bytes_out(*calls), packed(text + "1" * (-len(text) % 8)))
        self.assertLessEqual({1, 2, 3}, over)

    def test_nothing_is_filled_up_where_the_bits_are_whole_bytes(self):
        value = next(value for value in range(256) if len(framed([1, 0x00, value])) % 8 == 0)
        calls = leading_to(UP_STAGE) + [send([value])]
        self.assertEqual(bytes_out(*calls), packed(framed([1, 0x00, value])))
        self.assertEqual(reply(*calls, output(), output()), [0])

    def test_frames_stand_one_behind_another_bit_by_bit(self):
        calls = leading_to(UP_STAGE) + [send([at] * 3) for at in range(7)]
        bodies = [[1, at << 1] + [at] * 3 for at in range(7)]
        self.assertNotEqual(len(framed(bodies[0]) + framed(bodies[1])) % 8, 0)
        self.assertEqual(bytes_out(*calls), sent_bytes(*bodies))

    def test_zeros_put_in_behind_five_1s(self):
        for message in ([255], [31, 248], [255] * 200, [0x7E] * 9, [62, 124, 0xF8, 0x1F, 0x3F]):
            calls = leading_to(UP_STAGE) + [send(message)]
            text = framed([1, 0x00] + message)
            self.assertIn("111110", text[8:-8])
            self.assertNotIn("111111", text[8:-8])
            self.assertEqual(bytes_out(*calls), packed(text, "1"))

    def test_a_zero_put_in_at_the_end_of_the_sum(self):
        found = 0
        for value in range(256):
            body = [1, 0x00, value]
            bare = plain_bits(body + sum_of(body))
            if inside(body).endswith("111110") and bare.endswith("11111"):
                found += 1
                self.assertEqual(bytes_out(*leading_to(UP_STAGE), send([value])),
                                 packed(FLAG + inside(body)[:-1] + "0" + FLAG, "1"))
        self.assertGreater(found, 0)

    def test_what_is_to_be_sent_is_gone_behind_it(self):
        calls = leading_to(UP_STAGE) + [send([1]), output(), send([2])]
        self.assertEqual(bytes_out(*calls), sent_bytes([1, 0x02, 2]))

    def test_what_is_heard_of_it(self):
        # The 1s that fill up the last byte don't make a flag that stands next to them a wrong one.
        data = bytes_out(*HELLO_SENT) + bytes_out(*leading_to(UP_STAGE, side=0), send([7]))
        calls = [begin(1, side=1), bits(plain_bits(data), 1)]
        self.assertEqual(told_of(*calls, end=1), [UP_STAGE, 0, 0, 1, 0, 1])


class InPieces(unittest.TestCase):
    calls = leading_to(UP_STAGE) + [send([at, 255, 31]) for at in range(7)]
    bodies = [[1, at << 1, at, 255, 31] for at in range(7)]

    def test_of_any_size(self):
        whole = sent_bytes(*self.bodies)
        for size in (1, 2, 3, 5, 9, 50):
            found = answers_of(self.calls, [size] * (len(whole) // size + 2))
            self.assertEqual(found[-1], [])
            self.assertEqual([byte for piece in found for byte in piece], whole)

    def test_only_the_last_byte_is_filled_up(self):
        text = all_framed(*self.bodies)
        whole = len(text) // 8
        self.assertNotEqual(len(text) % 8, 0)
        found = answers_of(self.calls, [whole, 1, 1])
        self.assertEqual(found, [packed(text[:8 * whole]), packed(text[8 * whole:], "1"), []])

    def test_another_frame_sent_in_between(self):
        body = [1, 0x00, 255, 31]
        text = framed(body) + framed([1, 0x02, 9])
        whole = len(framed(body)) // 8
        self.assertNotEqual(len(framed(body)) % 8, 0)
        for size in range(whole + 1):
            # Though no whole byte of the first is left, its last bits come ahead of the next frame.
            calls = leading_to(UP_STAGE) + [send([255, 31]), output(size), send([9])]
            self.assertEqual(bytes_out(*calls), packed(text[8 * size:], "1"))

    def test_behind_a_filling_the_next_frame_begins_with_a_new_byte(self):
        body = [1, 0x00, 255, 31]
        whole = len(sent_bytes(body))
        for pieces in ([65536], [whole], [whole - 1, 1], [1] * whole):
            calls = leading_to(UP_STAGE) + [send([255, 31])] + [output(size) for size in pieces] + [send([9])]
            self.assertEqual(bytes_out(*calls), sent_bytes([1, 0x02, 9]))

    def test_more_than_one_output_hands_out(self):
        calls, text = nearly_full()
        first, second, third = answers_of(calls, [65536] * 3)
        self.assertEqual(len(first), 65536)
        self.assertEqual(first + second, packed(text, "1"))
        self.assertEqual(third, [])


class EachEndByItself(unittest.TestCase):
    def test_what_each_has_to_send(self):
        calls = [begin(0), begin(1, side=1), connect(0), bits(framed([1, HELLO]), 1)]
        self.assertEqual(bytes_out(*calls, output(end=1), end=0), HELLO_BYTES)
        self.assertEqual(bytes_out(*calls, output(end=0), end=1), sent_bytes([1, YES]))

    def test_begin_leaves_nothing_to_be_sent(self):
        self.assertEqual(reply(*HELLO_SENT, begin(), output()), [0])
        self.assertEqual(reply(*HELLO_SENT, output(3), begin(), output()), [0])


def nearly_full():
    """Calls by which so many long frames wait that no further one has room, and their bits."""
    bodies = [[1, at << 1] + [0] * 1024 for at in range(7)]
    calls = leading_to(UP_STAGE) + [send(body[2:]) for body in bodies]
    calls.append(bits(FLAG + (inside([1, AGAIN]) + FLAG) * 20))
    text = ""
    for one in [framed(body) for body in bodies] * 21:
        if len(text) + len(one) <= LIMIT:
            text += one
    return calls, text


class Room(unittest.TestCase):
    def setUp(self):
        self.calls, self.text = nearly_full()
        self.calls.append(frame(1, READY | 7 << 5))
        self.room = LIMIT - len(self.text)

    def message_that_takes(self, number, size):
        """A message whose frame, with that number, has so many bits."""
        # Behind each byte of five 1s one 0 is put in; how many the sum adds is tried out.
        for fives in range(8):
            for ending in range(8):
                message = [31] * fives + [0] * (size // 8 - 7 - fives) + [ending]
                if len(framed([1, number << 1] + message)) == size:
                    return message
        raise AssertionError(size)

    def test_long_frames_do_not_fit_any_more(self):
        self.assertLess(self.room, len(framed([1, 0] + [0] * 1024)))
        self.assertGreater(self.room, 500)
        first, second = answers_of(self.calls, [65536] * 2)
        self.assertEqual(first + second, packed(self.text, "1"))

    def test_a_frame_that_just_fits(self):
        message = self.message_that_takes(7, self.room)
        text = self.text + framed([1, 7 << 1] + message)
        self.assertEqual(len(text), LIMIT)
        calls = self.calls + [send(message)]
        first, second, third = answers_of(calls, [65536] * 3)
        self.assertEqual((first + second, third), (packed(text), []))
        # Now there's no room for even the shortest.
        first, second, third = answers_of(calls + [frame(3, HELLO), frame(3, READY | BIT_FOUR)], [65536] * 3)
        self.assertEqual((first + second, third), (packed(text), []))

    def test_a_frame_that_does_not_fit_whole_is_lost(self):
        for more in (1, 2, 7, 8, 9):
            message = self.message_that_takes(7, self.room + more)
            calls = self.calls + [send(message)]
            first, second, third = answers_of(calls, [65536] * 3)
            self.assertEqual((first + second, third), (packed(self.text, "1"), []))
            # It counts as sent all the same.
            self.assertEqual(told_of(*calls), [UP_STAGE, 0, 7, 0, 1, 0])

    def test_a_shorter_one_behind_a_lost_one_still_fits(self):
        calls = self.calls + [send([0] * 1024), send([5])]
        text = self.text + framed([1, 0x00, 5])
        first, second = answers_of(calls, [65536] * 2)
        self.assertEqual(first + second, packed(text, "1"))

    def test_there_is_room_again_behind_an_output(self):
        message = self.message_that_takes(7, self.room)
        text = self.text + framed([1, 7 << 1] + message)
        told = framed([3, READY | BIT_FOUR])
        for size in (6, 7, 8):
            calls = self.calls + [send(message), output(size), frame(3, READY | BIT_FOUR)]
            first, second, third = answers_of(calls, [65536] * 3)
            whole = (text + told if 8 * size >= len(told) else text)[8 * size:]
            self.assertEqual((first + second, third), (packed(whole, "1"), []))

    def test_all_of_the_room_is_there_again_behind_outputs(self):
        calls = self.calls + [output(), output(), bits(FLAG + (inside([1, AGAIN | 7 << 5]) + FLAG) * 3)]
        calls += [send([0] * 1024), bits(FLAG + (inside([1, AGAIN | 7 << 5]) + FLAG) * 130)]
        body = [1, 7 << 1] + [0] * 1024
        first, second, third = answers_of(calls, [65536] * 3)
        self.assertEqual(first + second + third, sent_bytes(*[body] * (LIMIT // len(framed(body)))))


if __name__ == "__main__":
    unittest.main()
