"""What the other end sees: every command and answer in every stage, bit by bit what is sent for it."""

import unittest

from helper import (AGAIN, ALL_STAGES, BIT_FOUR, BUSY, DOWN, DOWN_STAGE, END, ENDING_STAGE, GREETING_STAGE, HELLO,
                    NUMBERED, READY, STUCK_STAGE, UP_STAGE, WRONG, YES, asks_with, bytes_out, connect, finish, frame,
                    frames_out, hears_with, leading_to, output, send, sent_bytes, take, tick, told_of)

# The wrong that an end in the stuck stage has sent: for an unknown command 03H, r and s 0.
STUCK_BY = [0x03, 0, 1]

# By stage: the answer's control byte without f, and the stage behind it.
FOR_HELLO = {DOWN_STAGE: (YES, UP_STAGE), GREETING_STAGE: (YES, UP_STAGE), UP_STAGE: (YES, UP_STAGE),
             ENDING_STAGE: (DOWN, ENDING_STAGE), STUCK_STAGE: (YES, UP_STAGE)}
FOR_END = {DOWN_STAGE: (DOWN, DOWN_STAGE), GREETING_STAGE: (DOWN, DOWN_STAGE), UP_STAGE: (YES, DOWN_STAGE),
           ENDING_STAGE: (DOWN, ENDING_STAGE), STUCK_STAGE: (YES, DOWN_STAGE)}

# Commands but hello and end that can be at s, a and r 0: control, bytes, what is answered when up without p and
# with p, r behind it, messages to be taken behind it.
GOOD_COMMANDS = [(NUMBERED, [7, 8], READY | 0x20, READY | 0x20, 1, 1),
                 (NUMBERED | 0x02, [7], AGAIN, AGAIN, 0, 0),
                 (NUMBERED | 0x0E, [7], AGAIN, AGAIN, 0, 0),
                 (READY, [], None, READY, 0, 0), (BUSY, [], None, READY, 0, 0), (AGAIN, [], None, READY, 0, 0)]

# Bad frames at s, a and r 0: control, bytes, why.
BAD_COMMANDS = [(0x03, [], 1), (0x03, [5], 1), (0xEF, [1, 2, 3], 1), (0x0D, [], 1), (YES, [], 1), (DOWN, [], 1),
                (WRONG, [1, 2, 3], 1), (WRONG, [], 1), (NUMBERED, [], 3), (NUMBERED | 0x20, [], 3), (READY, [1], 3),
                (BUSY, [1, 2], 3), (AGAIN | 0x40, [1, 2, 3], 3), (HELLO, [1], 3), (END, [1, 2, 3], 3),
                (NUMBERED | 0x20, [1], 8), (NUMBERED | 0xE2, [1], 8), (READY | 0x20, [], 8), (BUSY | 0xE0, [], 8),
                (AGAIN | 0x80, [], 8)]
BAD_ANSWERS = [(0x03, [], 1), (0x03, [5], 1), (0xEF, [1, 2, 3], 1), (0x0D, [], 1), (NUMBERED, [1], 1),
               (NUMBERED, [], 1), (NUMBERED | 0x20, [1], 1), (HELLO, [], 1), (END, [1], 1), (YES, [1], 3),
               (DOWN, [1, 2, 3], 3), (WRONG, [], 3), (WRONG, [1, 2], 3), (WRONG, [1, 2, 3, 4], 3), (READY, [1], 3),
               (BUSY | 0x20, [1], 3), (AGAIN, [1, 2, 3], 3), (READY | 0x20, [], 8), (BUSY | 0xE0, [], 8),
               (AGAIN | 0x80, [], 8)]

EVERYWHERE = [(side, stage, bit) for side in (0, 1) for stage in ALL_STAGES for bit in (0, BIT_FOUR)]


class Case(unittest.TestCase):
    def check(self, calls, bodies, told):
        self.assertEqual(bytes_out(*calls), sent_bytes(*bodies), calls)
        self.assertEqual(told_of(*calls), told, calls)


class Commands(Case):
    def check_command(self, side, stage, control, data, bodies, told):
        address = hears_with(side)
        bodies = [[address] + body for body in bodies]
        self.check(leading_to(stage, side) + [frame(address, control, data)], bodies, told)

    def test_hello_and_end(self):
        for side, stage, poll in EVERYWHERE:
            for control, table in ((HELLO, FOR_HELLO), (END, FOR_END)):
                answer, behind = table[stage]
                self.check_command(side, stage, control | poll, [], [[answer | poll]], [behind, 0, 0, 0, 0, 0])

    def test_good_ones_when_up(self):
        for side in (0, 1):
            for control, data, without, with_poll, awaited, arrived in GOOD_COMMANDS:
                told = [UP_STAGE, 0, 0, awaited, 0, arrived]
                bodies = [] if without is None else [[without]]
                self.check_command(side, UP_STAGE, control, data, bodies, told)
                self.check_command(side, UP_STAGE, control | BIT_FOUR, data, [[with_poll | BIT_FOUR]], told)

    def test_bad_ones_when_up(self):
        for side in (0, 1):
            for control, data, why in BAD_COMMANDS:
                for poll in (0, BIT_FOUR):
                    bodies = [[WRONG | poll, control | poll, 0, why]]
                    self.check_command(side, UP_STAGE, control | poll, data, bodies, [STUCK_STAGE, 0, 0, 0, 0, 0])

    def test_all_others_when_not_up(self):
        commands = [row[:2] for row in GOOD_COMMANDS + BAD_COMMANDS]
        for side, stage, poll in EVERYWHERE:
            if stage == UP_STAGE:
                continue
            refusal = [WRONG | BIT_FOUR] + STUCK_BY if stage == STUCK_STAGE else [DOWN | BIT_FOUR]
            for control, data in commands:
                bodies = [refusal] if poll else []
                self.check_command(side, stage, control | poll, data, bodies, [stage, 0, 0, 0, 0, 0])


class Answers(Case):
    def check_answer(self, side, stage, control, data, bodies, behind):
        calls = leading_to(stage, side) + [frame(asks_with(side), control, data)]
        self.check(calls, bodies, [behind, 0, 0, 0, 0, 0])

    def test_yes(self):
        behind = {GREETING_STAGE: UP_STAGE, ENDING_STAGE: DOWN_STAGE}
        for side, stage, final in EVERYWHERE:
            self.check_answer(side, stage, YES | final, [], [], behind.get(stage, stage))

    def test_down(self):
        for side, stage, final in EVERYWHERE:
            self.check_answer(side, stage, DOWN | final, [], [], DOWN_STAGE)

    def test_wrong(self):
        for side, stage, final in EVERYWHERE:
            if stage == UP_STAGE:
                bodies = [[asks_with(side), HELLO | BIT_FOUR]]
                self.check_answer(side, stage, WRONG | final, [1, 2, 3], bodies, GREETING_STAGE)
            else:
                self.check_answer(side, stage, WRONG | final, [1, 2, 3], [], stage)

    def test_ready_busy_again(self):
        for side, stage, final in EVERYWHERE:
            for control in (READY, BUSY, AGAIN):
                self.check_answer(side, stage, control | final, [], [], stage)
                if stage != UP_STAGE:
                    self.check_answer(side, stage, control | 0x60 | final, [], [], stage)

    def test_bad_ones(self):
        for side, stage, final in EVERYWHERE:
            for control, data, why in BAD_ANSWERS:
                if stage == UP_STAGE:
                    bodies = [[hears_with(side), WRONG | final, control | final, 0, why]]
                    self.check_answer(side, stage, control | final, data, bodies, STUCK_STAGE)
                else:
                    self.check_answer(side, stage, control | final, data, [], stage)


class OwnCalls(Case):
    def test_connect_and_finish(self):
        for side in (0, 1):
            self.check(leading_to(DOWN_STAGE, side) + [connect()], [[asks_with(side), HELLO | BIT_FOUR]],
                       [GREETING_STAGE, 0, 0, 0, 0, 0])
            self.check(leading_to(UP_STAGE, side) + [finish()], [[asks_with(side), END | BIT_FOUR]],
                       [ENDING_STAGE, 0, 0, 0, 0, 0])

    def test_refused_ones_send_nothing(self):
        for stage in ALL_STAGES:
            for call, allowed in ((connect(), DOWN_STAGE), (finish(), UP_STAGE), (send([]), None)):
                if stage != allowed:
                    self.check(leading_to(stage) + [call], [], [stage, 0, 0, 0, 0, 0])

    def test_send(self):
        for side in (0, 1):
            for stage in ALL_STAGES:
                up = stage == UP_STAGE
                bodies = [[asks_with(side), NUMBERED, 5, 255]] if up else []
                self.check(leading_to(stage, side) + [send([5, 255])], bodies, [stage, int(up), 0, 0, 1, 0])

    def test_send_of_1_and_1024_bytes(self):
        for message in ([0], [255], [0x7E] * 1024, list(range(256)) * 4):
            self.check(leading_to(UP_STAGE) + [send(message)], [[1, NUMBERED] + message], [UP_STAGE, 1, 0, 0, 1, 0])


class Numbers(Case):
    def test_every_s_and_r_in_a_numbered_one(self):
        for coming in range(9):
            for leaving in range(9):
                calls = leading_to(UP_STAGE) + [frame(3, at % 8 << 1, [at]) for at in range(coming)]
                for at in range(leaving):
                    calls += [send([at]), frame(1, READY | (at + 1) % 8 << 5)]
                calls += [output(), send([99])]
                told = [UP_STAGE, (leaving + 1) % 8, leaving % 8, coming % 8, 1, coming]
                self.check(calls, [[1, coming % 8 << 5 | leaving % 8 << 1, 99]], told)

    def test_every_r_in_answers(self):
        for coming in range(9):
            calls = leading_to(UP_STAGE) + [frame(3, at % 8 << 1, [at]) for at in range(coming)] + [output()]
            awaited = coming % 8
            told = [UP_STAGE, 0, 0, awaited, 0, coming]
            self.check(calls + [frame(3, READY | BIT_FOUR)], [[3, READY | awaited << 5 | BIT_FOUR]], told)
            other = frame(3, (awaited + 3) % 8 << 1, [9])
            self.check(calls + [other], [[3, AGAIN | awaited << 5]], told)

    def test_every_s_and_r_in_a_wrong(self):
        for coming in range(8):
            for leaving in range(8):
                calls = leading_to(UP_STAGE) + [frame(3, at << 1, [at]) for at in range(coming)]
                calls += [send([at]) for at in range(leaving)] + [output(), frame(1, 0x13)]
                wrong = [WRONG | BIT_FOUR, 0x13, coming << 5 | leaving << 1, 1]
                self.check(calls, [[3] + wrong], [STUCK_STAGE, leaving, 0, coming, 0, coming])
                # Told once more, it is the same one, though with f as it is asked for.
                self.assertEqual(frames_out(*calls, output(), frame(3, 0x01)), [])
                self.assertEqual(frames_out(*calls, output(), frame(3, 0x11)), [[3] + wrong])

    def test_asked_again_once(self):
        calls = leading_to(UP_STAGE) + [frame(3, 0x02, [1]), output()]
        self.check(calls + [frame(3, 0x02, [1])], [], [UP_STAGE, 0, 0, 0, 0, 0])
        self.check(calls + [frame(3, 0x02 | BIT_FOUR, [1])], [[3, READY | BIT_FOUR]], [UP_STAGE, 0, 0, 0, 0, 0])
        calls += [frame(3, 0x00, [0]), output()]
        self.check(calls + [frame(3, 0x04, [1])], [[3, AGAIN | 0x20]], [UP_STAGE, 0, 0, 1, 0, 1])

    def test_answered_up_to_each_number_that_can_be(self):
        for ahead in (0, 5):
            calls = leading_to(UP_STAGE, window=3)
            for at in range(ahead):
                calls += [send([at]), frame(1, READY | (at + 1) % 8 << 5)]
            calls += [send([10 + at]) for at in range(4)] + [output()]
            for step in range(8):
                number = (ahead + step) % 8
                for kind in (READY, AGAIN):
                    found = frames_out(*calls, frame(1, kind | number << 5))
                    if step > 3:
                        self.assertEqual(found, [[3, WRONG, kind | number << 5, (ahead + 3) % 8 << 1, 8]])
                        continue
                    # What hasn't been sent goes out as far as the window goes; behind an again all of it.
                    first = 3 if kind == READY else step
                    goes = range(first, min(4, step + 3))
                    self.assertEqual(found, [[1, (ahead + at) % 8 << 1, 10 + at] for at in goes])


class GoesOut(Case):
    def test_by_an_answer_that_opens_the_window(self):
        calls = leading_to(UP_STAGE, window=2) + [send([at]) for at in range(5)] + [output()]
        self.check(calls + [frame(1, READY | 0x20)], [[1, 0x04, 2]], [UP_STAGE, 3, 1, 0, 4, 0])
        self.check(calls + [frame(3, 0x40 | BIT_FOUR, [9])], [[3, READY | 0x20 | BIT_FOUR], [1, 0x24, 2], [1, 0x26, 3]],
                   [UP_STAGE, 4, 2, 1, 3, 1])

    def test_not_while_the_other_is_busy(self):
        for address in (1, 3):
            calls = leading_to(UP_STAGE) + [frame(address, BUSY), send([1])]
            self.check(calls, [], [UP_STAGE, 0, 0, 0, 1, 0])
            self.check(calls + [frame(3, 0x00, [5])], [[3, READY | 0x20]], [UP_STAGE, 0, 0, 1, 1, 1])
            for control in (READY, AGAIN):
                self.check(calls + [frame(1, control)], [[1, 0x00, 1]], [UP_STAGE, 1, 0, 0, 1, 0])
                self.check(calls + [frame(3, control)], [[1, 0x00, 1]], [UP_STAGE, 1, 0, 0, 1, 0])

    def test_when_it_comes_up(self):
        for stage in (DOWN_STAGE, GREETING_STAGE, STUCK_STAGE):
            calls = leading_to(stage, window=2) + [send([at]) for at in range(3)]
            bodies = [[3, YES | BIT_FOUR], [1, 0x00, 0], [1, 0x02, 1]]
            self.check(calls + [frame(3, HELLO | BIT_FOUR)], bodies, [UP_STAGE, 2, 0, 0, 3, 0])
        calls = leading_to(GREETING_STAGE, window=2) + [send([at]) for at in range(3)]
        self.check(calls + [frame(1, YES | BIT_FOUR)], [[1, 0x00, 0], [1, 0x02, 1]], [UP_STAGE, 2, 0, 0, 3, 0])

    def test_messages_that_come_when_not_up_are_not_kept(self):
        for stage in (DOWN_STAGE, GREETING_STAGE, ENDING_STAGE, STUCK_STAGE):
            calls = leading_to(stage) + [frame(3, NUMBERED, [5]), take()]
            self.check(calls, [], [stage, 0, 0, 0, 0, 0])

    def test_what_else_comes_with_the_clock_running(self):
        calls = leading_to(GREETING_STAGE, patience=10) + [tick(now=10), frame(1, YES), send([1], now=10)]
        self.check(calls, [[1, HELLO | BIT_FOUR], [1, 0x00, 1]], [UP_STAGE, 1, 0, 0, 1, 0])


if __name__ == "__main__":
    unittest.main()
