import unittest

from linekept.ends import answers
from helper import (HELLO, LATEST, begin, bits, bits_refused, connect, finish, firsts, frame, framed, send,
                    stage_seen)


class ShapeOfAnswers(unittest.TestCase):
    def test_each_answer_has_its_count_ahead_of_it(self):
        calls = begin() + connect() + finish() + send([65, 66]) + bits("01111110" * 2) + begin(window=8)
        self.assertEqual(answers(calls), [1, 0, 1, 0, 1, -3, 1, 0, 1, 0, 1, -2])

    def test_one_call(self):
        self.assertEqual(answers(begin()), [1, 0])

    def test_answer_is_a_new_list_of_plain_numbers(self):
        calls = begin() + connect()
        given = answers(calls)
        self.assertIs(type(given), list)
        self.assertEqual({type(number) for number in given}, {int})
        self.assertIsNot(given, calls)

    def test_rows_of_any_length_leave_the_next_call_where_it_is(self):
        for row in ([], [1], [4, 0, 8, 0, 1, 1], [7] * 1024):
            expected = [0, 0 if row else -2, 0, -3]
            self.assertEqual(firsts(begin(), send(row), connect(), connect()), expected)
        for text in ("", "1", "01111110" * 40):
            self.assertEqual(firsts(begin(), bits(text), connect(), connect()), [0, 0, 0, -3])
        self.assertEqual(firsts(begin(), bits_refused(-1), connect(), connect()), [0, -2, 0, -3])

    def test_four_hundred_calls(self):
        calls = [begin()] + [connect(now=at) for at in range(399)]
        self.assertEqual(firsts(*calls), [0, 0] + [-3] * 398)

    def test_the_longest_list(self):
        calls = [begin(), bits("1" * 232000), send([9] * 900)]
        self.assertLessEqual(sum(len(call) for call in calls), 30000)
        self.assertEqual(firsts(*calls), [0, 0, 0])


class WhatIsHandedInAndKept(unittest.TestCase):
    def calls(self):
        return (begin() + send([1, 2, 3]) + frame(3, HELLO) + frame(3, 0x00, [5]) + finish() + begin(side=2)
                + frame(3, HELLO, end=1) + bits_refused(-1) + send([]))

    def test_the_list_stays_as_it_was(self):
        calls = self.calls()
        answers(calls)
        self.assertEqual(calls, self.calls())

    def test_a_message_kept_is_not_the_list_handed_in(self):
        calls = begin() + frame(3, HELLO) + send([1] * 20)
        before = list(calls)
        for _ in range(3):
            answers(calls)
        self.assertEqual(calls, before)

    def test_nothing_is_kept_from_one_time_to_the_next(self):
        first = answers(self.calls())
        self.assertEqual(answers(connect()), [1, -9])
        self.assertEqual(answers(begin() + finish()), [1, 0, 1, -3])
        self.assertEqual(answers(self.calls()), first)

    def test_a_frame_begun_in_one_list_does_not_end_in_another(self):
        text = framed([3, HELLO])
        answers(begin() + bits(text[:30]))
        self.assertEqual(stage_seen(begin(), bits(text[30:])), "down")


class NotBegun(unittest.TestCase):
    def others(self, end):
        return [connect(end), finish(end), send([1], end), bits("1", end),
                # These would be refused with -2 on an end that's begun: -9 is ahead of that.
                send([], end), bits_refused(-1, end), bits_refused(524281, end)]

    def test_all_other_calls_answer_minus_9(self):
        for end in (0, 1):
            for call in self.others(end):
                self.assertEqual(firsts(call), [-9])

    def test_a_refused_begin_begins_nothing(self):
        for end in (0, 1):
            self.assertEqual(firsts(begin(end, window=0), *self.others(end)), [-2] + [-9] * 7)

    def test_the_other_end_is_not_begun_by_this_one(self):
        for end in (0, 1):
            self.assertEqual(firsts(begin(end), *self.others(1 - end)), [0] + [-9] * 7)

    def test_bits_on_an_end_not_begun_are_gone(self):
        text = framed([3, HELLO])
        self.assertEqual(stage_seen(bits(text[:30]), begin(), bits(text[30:])), "down")


class BothEnds(unittest.TestCase):
    def test_each_has_a_stage_of_its_own(self):
        self.assertEqual(firsts(begin(0), begin(1), connect(1), connect(0), connect(1)), [0, 0, 0, 0, -3])
        calls = [begin(0), begin(1), frame(3, HELLO, end=1)]
        self.assertEqual(stage_seen(*calls, end=0), "down")
        self.assertEqual(stage_seen(*calls, end=1), "up")

    def test_each_has_messages_of_its_own(self):
        filled = [send([1], 0)] * 64
        self.assertEqual(firsts(begin(0), begin(1), *filled, send([1], 0), send([1], 1))[-2:], [-4, 0])

    def test_each_hears_bits_of_its_own(self):
        text = framed([3, HELLO])
        calls = [begin(0), begin(1), bits(text[:30], 0), bits(text[30:], 1)]
        self.assertEqual(stage_seen(*calls, end=0), "down")
        self.assertEqual(stage_seen(*calls, end=1), "down")
        calls = [begin(0), begin(1), bits(text[:30], 0), bits("1" * 20, 1), bits(text[30:], 0)]
        self.assertEqual(stage_seen(*calls, end=0), "up")

    def test_begin_of_one_leaves_the_other(self):
        self.assertEqual(firsts(begin(0), connect(0), begin(1), connect(0), connect(1)), [0, 0, 0, -3, 0])

    def test_both_may_have_the_same_side(self):
        calls = [begin(0, side=1), begin(1, side=1), frame(1, HELLO, end=0), frame(3, HELLO, end=1)]
        self.assertEqual(stage_seen(*calls, end=0), "up")
        self.assertEqual(stage_seen(*calls, end=1), "down")


class Times(unittest.TestCase):
    def test_any_times_in_any_order(self):
        for times in ((0, 0, 0), (LATEST, 0, 1), (LATEST, LATEST, 0), (2147483648, 2147483647, LATEST)):
            calls = [begin(patience=1, tries=1), connect(now=times[0]), frame(1, 0x63, now=times[1]),
                     send([1], now=times[2]), finish(now=times[0]), connect(now=times[1])]
            self.assertEqual(firsts(*calls), [0, 0, 0, 0, 0, -3])


if __name__ == "__main__":
    unittest.main()
