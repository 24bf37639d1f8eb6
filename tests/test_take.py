"""take: the messages that have come, one by one."""

import unittest

from helper import (AGAIN, ALL_STAGES, BIT_FOUR, BUSY, END, ENDING_STAGE, HELLO, READY, UP_STAGE, begin, connect,
                    finish, frame, frames_out, leading_to, output, replies, reply, take, told_of)


def with_messages(*messages):
    """An up end of side 0 to which these messages have come."""
    calls = leading_to(UP_STAGE)
    return calls + [frame(3, at % 8 << 1, message) for at, message in enumerate(messages)] + [output()]


def with_count(count):
    return with_messages(*[[at] for at in range(count)])


class Refusals(unittest.TestCase):
    def test_most_below_0(self):
        for most in (-1, -2, -2147483648):
            self.assertEqual(reply(*with_messages([5]), take(most)), [-2])

    def test_ahead_of_nothing_waits(self):
        self.assertEqual(reply(begin(), take(-1)), [-2])

    def test_longer_than_most(self):
        for size in (1, 2, 100, 1024):
            calls = with_messages([7] * size)
            self.assertEqual(reply(*calls, take(size - 1)), [-1])
            self.assertEqual(reply(*calls, take(0)), [-1])

    def test_a_refusal_changes_nothing(self):
        calls = with_messages([5, 6], [7])
        for most in (-1, 0, 1):
            self.assertEqual(told_of(*calls, take(most)), told_of(*calls))
            self.assertEqual(replies(*calls, take(most), take(2), take(1))[-2:], [[2, 5, 6], [1, 7]])


class Taken(unittest.TestCase):
    def test_nothing_waits(self):
        for most in (0, 1, 1024, 2147483647):
            self.assertEqual(reply(begin(), take(most)), [0])
            self.assertEqual(reply(*leading_to(UP_STAGE), take(most)), [0])

    def test_just_as_long_as_most(self):
        for size in (1, 2, 100, 1024):
            message = [at * 7 % 256 for at in range(size)]
            calls = with_messages(message)
            for most in (size, size + 1, 2147483647):
                self.assertEqual(reply(*calls, take(most)), [size] + message)

    def test_it_is_gone(self):
        calls = with_messages([5, 6])
        self.assertEqual(reply(*calls, take(2), take(2)), [0])
        self.assertEqual(told_of(*calls, take(2))[5], 0)

    def test_in_the_order_in_which_they_came(self):
        messages = [[at] * (at * 5 % 13 + 1) for at in range(20)]
        found = replies(*with_messages(*messages), *[take()] * 21)[-21:]
        self.assertEqual(found, [[len(message)] + message for message in messages] + [[0]])

    def test_a_long_first_one_holds_back_the_others(self):
        calls = with_messages([1] * 10, [2])
        self.assertEqual(replies(*calls, take(1), take(1), take(10), take(1))[-4:],
                         [[-1], [-1], [10] + [1] * 10, [1, 2]])

    def test_others_come_between(self):
        calls = with_messages([1], [2])
        found = replies(*calls, take(), frame(3, 0x04, [3]), take(), take(), take())
        self.assertEqual([answer for answer in found if len(answer) == 2], [[1, 1], [1, 2], [1, 3]])

    def test_in_every_stage(self):
        ways = ([], [frame(1, 0x0F)], [frame(1, 0x87, [1, 2, 3])], [finish()], [frame(3, 0x03)], [frame(3, END)],
                [frame(3, HELLO)], [frame(1, 0x0F), connect()])
        stages = set()
        for way in ways:
            calls = with_messages([5, 6], [7]) + way
            stages.add(told_of(*calls)[0])
            self.assertEqual(told_of(*calls)[5], 2)
            self.assertEqual(replies(*calls, take(), take(), take())[-3:], [[2, 5, 6], [1, 7], [0]])
        self.assertEqual(stages, set(ALL_STAGES))

    def test_nothing_is_sent_for_it(self):
        for count in (1, 64):
            self.assertEqual(frames_out(*with_count(count), take()), [])

    def test_each_end_by_itself(self):
        calls = [begin(0), begin(1)]
        for end in (0, 1):
            calls += [frame(3, HELLO, end=end), frame(3, 0x00, [end + 5], end=end)]
        self.assertEqual(replies(*calls, take(end=1), take(end=1), take(end=0))[-3:], [[1, 6], [0], [1, 5]])


class SixtyFour(unittest.TestCase):
    asks = frame(3, READY | BIT_FOUR)

    def test_the_64th_makes_it_busy(self):
        for count, kind in ((62, READY), (63, READY), (64, BUSY)):
            calls = with_count(count)
            self.assertEqual(frames_out(*calls, self.asks), [[3, kind | count % 8 << 5 | BIT_FOUR]])

    def test_it_is_told_with_the_64th_itself(self):
        self.assertEqual(frames_out(*with_count(63), frame(3, 63 % 8 << 1, [1])), [[3, BUSY]])

    def test_the_65th_does_not_come(self):
        calls = with_count(64)
        self.assertEqual(frames_out(*calls, frame(3, 0x00, [99])), [[3, BUSY]])
        self.assertEqual(told_of(*calls, frame(3, 0x00, [99])), [UP_STAGE, 0, 0, 0, 0, 64])
        found = replies(*calls, frame(3, 0x00, [99]), *[take()] * 65)[-65:]
        self.assertEqual(found, [[1, at] for at in range(64)] + [[0]])

    def test_behind_a_take_it_is_busy_no_more(self):
        calls = with_count(64) + [take()]
        self.assertEqual(frames_out(*calls, self.asks), [[3, READY | BIT_FOUR]])
        # The next one fills it up again.
        self.assertEqual(frames_out(*calls, frame(3, 0x00, [64])), [[3, BUSY | 0x20]])
        self.assertEqual(frames_out(*calls, take(), frame(3, 0x00, [64])), [[3, READY | 0x20]])
        self.assertEqual(frames_out(*calls, frame(3, 0x02, [64])), [[3, AGAIN]])

    def test_a_refused_take_leaves_it_busy(self):
        for most in (-1, 0):
            self.assertEqual(frames_out(*with_count(64), take(most), self.asks), [[3, BUSY | BIT_FOUR]])

    def test_it_stays_so_when_it_is_up_anew(self):
        calls = with_count(64) + [finish(), frame(1, 0x63), connect(), frame(1, 0x63), output()]
        self.assertEqual(frames_out(*calls, self.asks), [[3, BUSY | BIT_FOUR]])

    def test_ending_does_not_tell_of_it(self):
        calls = with_count(64) + [finish(), output()]
        self.assertEqual(told_of(*calls)[0], ENDING_STAGE)
        self.assertEqual(frames_out(*calls, self.asks), [[3, 0x0F | BIT_FOUR]])


if __name__ == "__main__":
    unittest.main()
