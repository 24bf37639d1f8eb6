import unittest

from linekept.ends import answers
from helper import (ALL_STAGES, HELLO, LATEST, UP_STAGE, begin, bits, bits_refused, bytes_out, connect, finish, firsts,
                    frame, framed, leading_to, output, replies, reply, send, sent_bytes, stage_seen, take, tick, told,
                    told_of)


class ShapeOfAnswers(unittest.TestCase):
    def test_each_answer_has_its_count_ahead_of_it(self):
        calls = begin() + connect() + finish() + send([65, 66]) + bits("01111110" * 2) + begin(window=8)
        self.assertEqual(answers(calls), [1, 0, 1, 0, 1, -3, 1, 0, 1, 0, 1, -2])

    def test_the_count_has_the_first_number_in_it(self):
        calls = begin() + connect() + tick(now=1) + output(3) + output(0) + take() + told() + output(-1) + take(-1)
        self.assertEqual(answers(calls), [1, 0, 1, 0, 1, 0, 4, 3, 0x7E, 0x01, 0x5F, 1, 0, 1, 0,
                                          7, 0, 1, 0, 0, 0, 0, 0, 1, -2, 1, -2])
        calls = begin() + frame(3, HELLO) + frame(3, 0x00, [65, 66]) + take(1) + take(2) + take(2) + told()
        self.assertEqual(answers(calls), [1, 0, 1, 0, 1, 0, 1, -1, 3, 2, 65, 66, 1, 0, 7, 0, 2, 0, 0, 1, 0, 0])

    def test_the_longest_answer(self):
        calls = leading_to(UP_STAGE) + [send([0] * 1024) for _ in range(7)]
        calls += [bits(framed([1, 0x09]) * 15), output()]
        answer = reply(*calls)
        self.assertEqual((len(answer), answer[0]), (65537, 65536))

    def test_one_call(self):
        self.assertEqual(answers(begin()), [1, 0])

    def test_answer_is_a_new_list_of_plain_numbers(self):
        calls = begin() + connect()
        given = answers(calls)
        self.assertIs(type(given), list)
        self.assertEqual({type(number) for number in given}, {int})
        self.assertIsNot(given, calls)

    def test_rows_of_any_length_leave_the_next_call_where_it_is(self):
        for row in ([], [1], [4, 0, 8, 0, 1, 1], [7] * 1024):
            expected = [0, 0 if row else -2, 0, -3]
            self.assertEqual(firsts(begin(), send(row), connect(), connect()), expected)
        for text in ("", "1", "01111110" * 40):
            self.assertEqual(firsts(begin(), bits(text), connect(), connect()), [0, 0, 0, -3])
        self.assertEqual(firsts(begin(), bits_refused(-1), connect(), connect()), [0, -2, 0, -3])

    def test_each_call_leaves_the_next_one_where_it_is(self):
        for call in (begin(1), begin(window=0), connect(1), finish(), send([8, 0]), bits("0"), bits_refused(-1), tick(),
                     output(0), take(), told(), told(1)):
            self.assertEqual(replies(begin(), begin(1), call, connect(), connect())[-2:], [[0], [-3]])

    def test_four_hundred_calls(self):
        calls = [begin()] + [connect(now=at) for at in range(399)]
        self.assertEqual(firsts(*calls), [0, 0] + [-3] * 398)
        self.assertEqual(replies(begin(), *[told()] * 399), [[0]] + [[0] * 7] * 399)

    def test_the_longest_list(self):
        calls = [begin(), bits("1" * 232000), send([9] * 900)]
        self.assertLessEqual(sum(len(call) for call in calls), 30000)
        self.assertEqual(firsts(*calls), [0, 0, 0])


class WhatIsHandedInAndKept(unittest.TestCase):
    def calls(self):
        return (begin() + send([1, 2, 3]) + frame(3, HELLO) + frame(3, 0x00, [5]) + finish() + begin(side=2)
                + frame(3, HELLO, end=1) + bits_refused(-1) + send([]) + tick(now=5000) + output(5) + output()
                + take(0) + take() + take() + told() + told(1))

    def test_the_list_stays_as_it_was(self):
        calls = self.calls()
        answers(calls)
        self.assertEqual(calls, self.calls())

    def test_a_message_kept_is_not_the_list_handed_in(self):
        calls = begin() + frame(3, HELLO) + send([1] * 20) + output() + told()
        before = list(calls)
        for _ in range(3):
            answers(calls)
        self.assertEqual(calls, before)

    def test_nothing_is_kept_from_one_time_to_the_next(self):
        first = answers(self.calls())
        self.assertEqual(answers(connect()), [1, -9])
        self.assertEqual(answers(begin() + finish()), [1, 0, 1, -3])
        self.assertEqual(answers(begin() + output() + take() + told()), [1, 0, 1, 0, 1, 0, 7] + [0] * 7)
        self.assertEqual(answers(self.calls()), first)

    def test_a_frame_begun_in_one_list_does_not_end_in_another(self):
        text = framed([3, HELLO])
        answers(begin() + bits(text[:30]))
        self.assertEqual(stage_seen(begin(), bits(text[30:])), "down")


class NotBegun(unittest.TestCase):
    def others(self, end):
        return [connect(end), finish(end), send([1], end), bits("1", end), tick(end), output(0, end), output(9, end),
                take(0, end), take(9, end), told(end), output(-1, end), output(65537, end), take(-1, end),
                # These would be refused with -2 on an end that's begun: -9 is ahead of that.
                send([], end), bits_refused(-1, end), bits_refused(524281, end)]

    def test_all_other_calls_answer_minus_9(self):
        for end in (0, 1):
            for call in self.others(end):
                self.assertEqual(firsts(call), [-9])

    def test_a_refused_begin_begins_nothing(self):
        for end in (0, 1):
            self.assertEqual(firsts(begin(end, window=0), *self.others(end)), [-2] + [-9] * 16)

    def test_the_other_end_is_not_begun_by_this_one(self):
        for end in (0, 1):
            self.assertEqual(firsts(begin(end), *self.others(1 - end)), [0] + [-9] * 16)

    def test_bits_on_an_end_not_begun_are_gone(self):
        text = framed([3, HELLO])
        self.assertEqual(stage_seen(bits(text[:30]), begin(), bits(text[30:])), "down")


class RefusalsChangeNothing(unittest.TestCase):
    refused = [begin(side=2), begin(window=0), begin(patience=0), begin(tries=0), send([]), bits_refused(-1),
               bits_refused(524281), output(-1), output(65537), take(-1), take(0)]

    def test_in_every_stage(self):
        for stage in ALL_STAGES:
            calls = leading_to(stage, window=1, patience=10)
            if stage == UP_STAGE:
                calls += [frame(3, 0x00, [5])]
            calls += [send([1]), send([2])]
            seen = [tick(now=10), output(), told(), take(), told(), tick(now=20), output(), told()]
            expected = replies(*calls, *seen)[-len(seen):]
            refused = self.refused + ([] if stage == 0 else [connect(now=7)]) + ([] if stage == 2 else [finish(now=7)])
            for call in refused:
                found = replies(*calls, call, *seen)
                self.assertEqual(found[-len(seen):], expected)
                self.assertTrue(len(found[-len(seen) - 1]) == 1 and found[-len(seen) - 1][0] <= 0)

    def test_a_message_too_many(self):
        calls = leading_to(UP_STAGE, window=1) + [send([at]) for at in range(64)]
        self.assertEqual(reply(*calls, send([9])), [-4])
        self.assertEqual(told_of(*calls, send([9])), [UP_STAGE, 1, 0, 0, 64, 0])
        self.assertEqual(bytes_out(*calls, send([9])), sent_bytes([1, 0x00, 0]))


class BothEnds(unittest.TestCase):
    def test_each_has_a_stage_of_its_own(self):
        self.assertEqual(firsts(begin(0), begin(1), connect(1), connect(0), connect(1)), [0, 0, 0, 0, -3])
        calls = [begin(0), begin(1), frame(3, HELLO, end=1)]
        self.assertEqual(stage_seen(*calls, end=0), "down")
        self.assertEqual(stage_seen(*calls, end=1), "up")

    def test_each_has_messages_of_its_own(self):
        filled = [send([1], 0)] * 64
        self.assertEqual(firsts(begin(0), begin(1), *filled, send([1], 0), send([1], 1))[-2:], [-4, 0])

    def test_each_hears_bits_of_its_own(self):
        text = framed([3, HELLO])
        calls = [begin(0), begin(1), bits(text[:30], 0), bits(text[30:], 1)]
        self.assertEqual(stage_seen(*calls, end=0), "down")
        self.assertEqual(stage_seen(*calls, end=1), "down")
        calls = [begin(0), begin(1), bits(text[:30], 0), bits("1" * 20, 1), bits(text[30:], 0)]
        self.assertEqual(stage_seen(*calls, end=0), "up")

    def test_begin_of_one_leaves_the_other(self):
        self.assertEqual(firsts(begin(0), connect(0), begin(1), connect(0), connect(1)), [0, 0, 0, -3, 0])

    def test_both_may_have_the_same_side(self):
        calls = [begin(0, side=1), begin(1, side=1), frame(1, HELLO, end=0), frame(3, HELLO, end=1)]
        self.assertEqual(stage_seen(*calls, end=0), "up")
        self.assertEqual(stage_seen(*calls, end=1), "down")


class Times(unittest.TestCase):
    def test_any_times_in_any_order(self):
        for times in ((0, 0, 0), (LATEST, 0, 1), (LATEST, LATEST, 0), (2147483648, 2147483647, LATEST)):
            calls = [begin(patience=1, tries=1), connect(now=times[0]), frame(1, 0x63, now=times[1]),
                     send([1], now=times[2]), finish(now=times[0]), connect(now=times[1])]
            self.assertEqual(firsts(*calls), [0, 0, 0, 0, 0, -3])


if __name__ == "__main__":
    unittest.main()
