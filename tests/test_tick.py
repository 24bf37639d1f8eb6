"""tick: when the clock is out, and what is done then."""

import unittest

from helper import (AGAIN, ALL_STAGES, BIT_FOUR, BUSY, DOWN, DOWN_STAGE, END, ENDING_STAGE, GREETING_STAGE, HELLO,
                    LATEST, READY, STUCK_STAGE, UP_STAGE, WRONG, YES, asks_with, begin, bytes_out, connect, finish,
                    frame, frames_out, hears_with, leading_to, output, replies, reply, send, sent_bytes, tick, told_of)

RUNNING = (GREETING_STAGE, UP_STAGE, ENDING_STAGE)


def with_clock(stage, began=0, **settings):
    """Calls that bring end 0 to the stage with its clock running since then and nothing left to be sent."""
    calls = leading_to(stage, now=began, **settings)
    if stage == UP_STAGE:
        calls += [send([1], now=began), output()]
    return calls


def asked_anew(stage, side=0):
    return [asks_with(side), {GREETING_STAGE: HELLO, UP_STAGE: READY, ENDING_STAGE: END}[stage] | BIT_FOUR]


class WhenItIsOut(unittest.TestCase):
    def check(self, stage, began, now, patience, out):
        calls = with_clock(stage, began, patience=patience)
        found = frames_out(*calls, tick(now=now))
        self.assertEqual(found, [asked_anew(stage)] if out else [], (stage, began, now, patience))

    def test_just_before_at_and_behind(self):
        for stage in RUNNING:
            for began in (0, 5000):
                for gone, out in ((0, False), (1, False), (99, False), (100, True), (101, True), (40000, True)):
                    self.check(stage, began, began + gone, 100, out)

    def test_times_go_round(self):
        for stage in RUNNING:
            self.check(stage, LATEST - 49, 49, 100, False)
            self.check(stage, LATEST - 49, 50, 100, True)
            self.check(stage, LATEST - 49, 51, 100, True)
            self.check(stage, LATEST, LATEST, 1, False)
            self.check(stage, LATEST, 0, 1, True)

    def test_an_earlier_time_is_nearly_a_round_away(self):
        for stage in RUNNING:
            self.check(stage, 500, 499, LATEST, True)
            self.check(stage, 500, 498, LATEST, False)
            self.check(stage, 500, 499, 100, True)

    def test_least_and_utmost_patience(self):
        self.check(UP_STAGE, 0, 0, 1, False)
        self.check(UP_STAGE, 0, 1, 1, True)
        self.check(UP_STAGE, 0, LATEST - 1, LATEST, False)
        self.check(UP_STAGE, 0, LATEST, LATEST, True)

    def test_runs_anew_from_the_tick(self):
        for stage in RUNNING:
            calls = with_clock(stage, patience=100) + [tick(now=130), output()]
            self.assertEqual(frames_out(*calls, tick(now=229)), [])
            self.assertEqual(frames_out(*calls, tick(now=230)), [asked_anew(stage)])

    def test_a_tick_too_early_leaves_it_as_it_ran(self):
        for stage in RUNNING:
            calls = with_clock(stage, patience=100) + [tick(now=99)]
            self.assertEqual(frames_out(*calls, tick(now=100)), [asked_anew(stage)])

    def test_one_tick_sees_to_it_once(self):
        for stage in RUNNING:
            calls = with_clock(stage, patience=100, tries=1)
            self.assertEqual(frames_out(*calls, tick(now=100000)), [asked_anew(stage)])
            self.assertEqual(told_of(*calls, tick(now=100000))[0], stage)

    def test_only_tick_looks_at_the_clock(self):
        calls = with_clock(UP_STAGE, patience=100)
        late = [send([2], now=90000), frame(3, READY, now=90001), frame(2, 0x00, now=90002)]
        self.assertEqual(frames_out(*calls, *late), [[1, 0x02, 2]])

    def test_always_answers_0(self):
        for stage in ALL_STAGES:
            for now in (0, 99, 100, LATEST):
                self.assertEqual(reply(*leading_to(stage, patience=100), tick(now=now)), [0])


class NotRunning(unittest.TestCase):
    def test_down_stuck_and_up_with_all_answered(self):
        for stage in (DOWN_STAGE, UP_STAGE, STUCK_STAGE):
            calls = leading_to(stage, patience=1, tries=1)
            ticks = [tick(now=now) for now in (0, 1, 100, LATEST)]
            self.assertEqual(bytes_out(*calls, *ticks), [])
            self.assertEqual(told_of(*calls, *ticks), told_of(*calls))

    def test_not_down_behind_a_clock_that_ran(self):
        for stage in RUNNING:
            calls = with_clock(stage, patience=10) + [frame(1, DOWN), output(), tick(now=LATEST)]
            self.assertEqual(bytes_out(*calls), [])
            self.assertEqual(told_of(*calls)[0], DOWN_STAGE)

    def test_not_stuck_behind_a_clock_that_ran(self):
        calls = with_clock(UP_STAGE, patience=10) + [frame(3, 0x03), output(), tick(now=LATEST)]
        self.assertEqual(bytes_out(*calls), [])
        self.assertEqual(told_of(*calls)[0], STUCK_STAGE)

    def test_not_once_all_is_answered(self):
        calls = with_clock(UP_STAGE, patience=10) + [frame(1, READY | 0x20, now=5), tick(now=100)]
        self.assertEqual(bytes_out(*calls), [])

    def test_runs_anew_from_an_answer_while_something_is_not_answered(self):
        calls = with_clock(UP_STAGE, patience=10) + [send([2], now=1), output(), frame(1, READY | 0x20, now=8)]
        self.assertEqual(frames_out(*calls, tick(now=17)), [])
        self.assertEqual(frames_out(*calls, tick(now=18)), [asked_anew(UP_STAGE)])

    def test_runs_from_the_first_of_those_sent(self):
        calls = leading_to(UP_STAGE, patience=10) + [send([1], now=3), send([2], now=9), output()]
        self.assertEqual(frames_out(*calls, tick(now=12)), [])
        self.assertEqual(frames_out(*calls, tick(now=13)), [asked_anew(UP_STAGE)])


class Tries(unittest.TestCase):
    def ticks(self, count, first=10):
        return [tick(now=first + 10 * at) for at in range(count)]

    def test_at_most_tries_it_asks_anew(self):
        for stage in RUNNING:
            for side in (0, 1):
                for tries in (1, 2, 5, 100):
                    calls = with_clock(stage, side=side, patience=10, tries=tries) + self.ticks(tries)
                    self.assertEqual(bytes_out(*calls), sent_bytes(*[asked_anew(stage, side)] * tries))
                    self.assertEqual(told_of(*calls)[0], stage)

    def test_more_than_tries_when_greeting_or_ending_it_is_down(self):
        for stage in (GREETING_STAGE, ENDING_STAGE):
            for tries in (1, 2, 100):
                calls = with_clock(stage, patience=10, tries=tries) + self.ticks(tries)
                self.assertEqual(bytes_out(*calls, output(), tick(now=10 * tries + 10)), [])
                self.assertEqual(told_of(*calls, tick(now=10 * tries + 10)), [DOWN_STAGE, 0, 0, 0, 0, 0])

    def test_down_then_the_clock_is_not_running(self):
        for stage in (GREETING_STAGE, ENDING_STAGE):
            calls = with_clock(stage, patience=10, tries=1) + self.ticks(2) + [output()]
            self.assertEqual(bytes_out(*calls, tick(now=LATEST)), [])
            self.assertEqual(told_of(*calls, tick(now=LATEST))[0], DOWN_STAGE)

    def test_more_than_tries_when_up_it_greets(self):
        for side in (0, 1):
            calls = with_clock(UP_STAGE, side=side, window=1, patience=10, tries=2)
            calls += [frame(hears_with(side), 0x00, [9]), send([2]), send([3]), output()] + self.ticks(2) + [output()]
            self.assertEqual(told_of(*calls), [UP_STAGE, 1, 0, 1, 3, 1])
            self.assertEqual(bytes_out(*calls, tick(now=30)), sent_bytes([asks_with(side), HELLO | BIT_FOUR]))
            # The one that had been sent is lost, the others wait; so does what is to be taken.
            self.assertEqual(told_of(*calls, tick(now=30)), [GREETING_STAGE, 0, 0, 0, 2, 1])

    def test_when_it_greets_the_clock_runs_out_no_times(self):
        calls = with_clock(UP_STAGE, patience=10, tries=2) + self.ticks(3) + [output()]
        self.assertEqual(frames_out(*calls, tick(now=39)), [])
        calls += [tick(now=40), tick(now=50)]
        self.assertEqual(frames_out(*calls), [asked_anew(GREETING_STAGE)] * 2)
        self.assertEqual(told_of(*calls)[0], GREETING_STAGE)
        self.assertEqual(told_of(*calls, tick(now=60))[0], DOWN_STAGE)

    def test_out_no_times_behind_what_is_answered(self):
        calls = with_clock(UP_STAGE, patience=10, tries=2) + [send([2])] + self.ticks(2)
        answered = [frame(1, READY | 0x20, now=20)] + self.ticks(2, 30)
        self.assertEqual(told_of(*calls, *answered)[:3], [UP_STAGE, 2, 1])
        self.assertEqual(told_of(*calls, *answered, tick(now=50))[0], GREETING_STAGE)

    def test_an_answer_that_tells_of_nothing_more_leaves_the_times(self):
        for control in (READY, READY | BIT_FOUR, AGAIN, BUSY | BIT_FOUR):
            calls = with_clock(UP_STAGE, patience=10, tries=2) + self.ticks(2) + [frame(1, control, now=20)]
            self.assertEqual(told_of(*calls, tick(now=29))[0], UP_STAGE)
            self.assertEqual(told_of(*calls, tick(now=30))[0], GREETING_STAGE)

    def test_out_no_times_behind_a_connect_or_a_finish(self):
        first = [begin(patience=10, tries=1), connect()] + self.ticks(2)
        self.assertEqual(told_of(*first, connect(now=20), tick(now=30))[0], GREETING_STAGE)
        first = with_clock(UP_STAGE, patience=10, tries=1) + self.ticks(1) + [finish(now=10)]
        self.assertEqual(told_of(*first, tick(now=20))[0], ENDING_STAGE)
        self.assertEqual(told_of(*first, tick(now=20), tick(now=30))[0], DOWN_STAGE)


class Polling(unittest.TestCase):
    def polls(self, **settings):
        return with_clock(UP_STAGE, patience=10, **settings) + [tick(now=10), output()]

    def test_tells_ready_with_what_is_awaited(self):
        for side in (0, 1):
            for coming in range(9):
                calls = with_clock(UP_STAGE, side=side, patience=10)
                calls += [frame(hears_with(side), at % 8 << 1, [at]) for at in range(coming)] + [output()]
                expected = [asks_with(side), READY | BIT_FOUR | coming % 8 << 5]
                self.assertEqual(bytes_out(*calls, tick(now=10)), sent_bytes(expected))

    def test_tells_busy_where_64_messages_wait_to_be_taken(self):
        for coming, kind in ((63, READY), (64, BUSY), (65, BUSY)):
            calls = with_clock(UP_STAGE, patience=10)
            calls += [frame(3, at % 8 << 1, [at]) for at in range(coming)] + [output()]
            expected = [1, kind | BIT_FOUR | min(coming, 64) % 8 << 5]
            self.assertEqual(bytes_out(*calls, tick(now=10)), sent_bytes(expected))

    def test_nothing_goes_out_while_it_polls(self):
        calls = self.polls() + [send([2]), frame(3, READY), frame(1, READY), frame(3, READY | 0x20)]
        self.assertEqual(bytes_out(*calls), [])
        self.assertEqual(told_of(*calls), [UP_STAGE, 1, 1, 0, 1, 0])

    def test_an_answer_with_f_ends_it_and_all_goes_out_again(self):
        calls = self.polls(window=3) + [send([at]) for at in (2, 3, 4)]
        for control in (READY, AGAIN):
            self.assertEqual(bytes_out(*calls, frame(1, control | BIT_FOUR)),
                             sent_bytes([1, 0x00, 1], [1, 0x02, 2], [1, 0x04, 3]))

    def test_an_answer_with_f_that_tells_of_all(self):
        calls = self.polls(window=3) + [send([at]) for at in (2, 3, 4, 5)]
        self.assertEqual(bytes_out(*calls, frame(1, READY | 0x20 | BIT_FOUR)),
                         sent_bytes([1, 0x02, 2], [1, 0x04, 3], [1, 0x06, 4]))

    def test_busy_with_f_ends_it_yet_nothing_goes_out(self):
        calls = self.polls() + [send([2]), frame(1, BUSY | BIT_FOUR)]
        self.assertEqual(bytes_out(*calls), [])
        self.assertEqual(told_of(*calls), [UP_STAGE, 0, 0, 0, 2, 0])
        self.assertEqual(frames_out(*calls, frame(1, READY)), [[1, 0x00, 1], [1, 0x02, 2]])

    def test_without_f_it_polls_on(self):
        for control in (READY, BUSY, AGAIN):
            calls = self.polls() + [send([2]), frame(1, control), frame(1, READY)]
            self.assertEqual(bytes_out(*calls), [])
            self.assertEqual(frames_out(*calls, frame(1, READY | BIT_FOUR)), [[1, 0x00, 1], [1, 0x02, 2]])

    def test_commands_with_p_do_not_end_it(self):
        for control in (READY, AGAIN):
            calls = self.polls() + [send([2]), frame(3, control | BIT_FOUR)]
            self.assertEqual(frames_out(*calls), [[3, READY | BIT_FOUR]])

    def test_an_f_counts_once(self):
        calls = self.polls() + [frame(1, READY | BIT_FOUR), output()]
        self.assertEqual(bytes_out(*calls, frame(1, READY | BIT_FOUR)), [])

    def test_a_hello_ends_it(self):
        calls = self.polls() + [send([2])]
        self.assertEqual(frames_out(*calls, frame(3, HELLO)), [[3, YES], [1, 0x00, 2]])

    def test_all_messages_are_answered_while_it_polls(self):
        # The clock isn't running then, and only an answer with f lets more go out.
        calls = self.polls() + [send([2]), frame(3, READY | 0x20), tick(now=LATEST)]
        self.assertEqual(bytes_out(*calls), [])
        self.assertEqual(frames_out(*calls, frame(1, READY | 0x20 | BIT_FOUR)), [[1, 0x02, 2]])


class EachEndByItself(unittest.TestCase):
    def test_a_tick_of_one_leaves_the_other(self):
        calls = [begin(0, patience=10), begin(1, patience=10), connect(0), connect(1), output(end=0), output(end=1)]
        self.assertEqual(frames_out(*calls, tick(0, 10), end=0), [[1, HELLO | BIT_FOUR]])
        self.assertEqual(frames_out(*calls, tick(0, 10), end=1), [])

    def test_answers_of_a_whole_list(self):
        calls = [begin(patience=10, tries=1), connect(), tick(now=10), tick(now=20), connect(now=20),
                 frame(1, YES), frame(1, WRONG, [1, 2, 3], now=21), tick(now=31), tick(now=41), connect(now=41)]
        self.assertEqual(replies(*calls), [[0]] * len(calls))


if __name__ == "__main__":
    unittest.main()
