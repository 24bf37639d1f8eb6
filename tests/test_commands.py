"""Commands in every stage. Side 0 gets them with address 3 and answers with 3."""

import unittest

from helper import (AGAIN, ALL_STAGES, BIT_FOUR, BUSY, DOWN, DOWN_STAGE, END, ENDING_STAGE, GREETING_STAGE, HELLO,
                    LATEST, NUMBERED, READY, STUCK_STAGE, UP_STAGE, WRONG, YES, Probe, in_stage, up)


def in_use():
    """An up end for which each thing that it keeps is other than afresh."""
    probe = up(window=2)
    for at in range(5):
        probe.send(at, now=50)
    probe.command(NUMBERED, [5])
    probe.command(BUSY)
    probe.command(NUMBERED, [6])
    probe.end.polls = True
    probe.end.times_out = 3
    return probe


class Case(unittest.TestCase):
    def check_afresh(self, probe):
        end = probe.end
        self.assertEqual(probe.numbers(), (0, 0, 0))
        self.assertFalse(end.other_busy or end.again_asked or end.polls)
        self.assertEqual((probe.clock(), end.times_out, end.sent_count), (None, 0, 0))


class Hello(Case):
    def test_when_down_greeting_up_stuck(self):
        for stage in (DOWN_STAGE, GREETING_STAGE, UP_STAGE, STUCK_STAGE):
            for poll in (0, BIT_FOUR):
                probe = in_stage(stage)
                self.assertEqual(probe.command(HELLO | poll), [[3, YES | poll]])
                self.assertEqual(probe.end.stage, UP_STAGE)
                self.check_afresh(probe)

    def test_when_ending(self):
        for poll in (0, BIT_FOUR):
            probe = in_stage(ENDING_STAGE)
            probe.end.clock_began = 9
            self.assertEqual(probe.command(HELLO | poll), [[3, DOWN | poll]])
            self.assertEqual((probe.end.stage, probe.clock()), (ENDING_STAGE, 9))

    def test_afresh_when_up_and_in_use(self):
        probe = in_use()
        probe.end.other_busy = False
        self.assertEqual(probe.command(HELLO, now=60), [[3, YES], [1, 0x00, 2], [1, 0x02, 3]])
        self.assertEqual((probe.numbers(), probe.clock()), ((2, 0, 0), 60))
        self.assertEqual(probe.end.leaving, [[2], [3], [4]])
        self.assertEqual(probe.end.arrived, [[5]])

    def test_afresh_when_nothing_waits(self):
        probe = in_use()
        probe.end.leaving = probe.end.leaving[:2]
        self.assertEqual(probe.command(HELLO), [[3, YES]])
        self.check_afresh(probe)

    def test_the_other_side(self):
        for side, address in ((0, 3), (1, 1)):
            self.assertEqual(Probe(side=side).command(HELLO | BIT_FOUR), [[address, YES | BIT_FOUR]])


class End(Case):
    def test_when_up_or_stuck(self):
        for stage in (UP_STAGE, STUCK_STAGE):
            for poll in (0, BIT_FOUR):
                probe = in_stage(stage)
                self.assertEqual(probe.command(END | poll), [[3, YES | poll]])
                self.assertEqual((probe.end.stage, probe.clock()), (DOWN_STAGE, None))

    def test_when_down_greeting_or_ending(self):
        for stage, behind in ((DOWN_STAGE, DOWN_STAGE), (GREETING_STAGE, DOWN_STAGE), (ENDING_STAGE, ENDING_STAGE)):
            for poll in (0, BIT_FOUR):
                probe = in_stage(stage)
                self.assertEqual(probe.command(END | poll), [[3, DOWN | poll]])
                self.assertEqual(probe.end.stage, behind)
                self.assertEqual(probe.clock(), 0 if behind == ENDING_STAGE else None)

    def test_sent_ones_still_count_when_down(self):
        probe = in_use()
        probe.command(END)
        self.assertEqual((len(probe.end.leaving), probe.end.sent_count, probe.clock()), (5, 2, None))


class OthersWhenNotUp(unittest.TestCase):
    # Bad ones too: not known, such as are answers, with bytes or without.
    controls = [(NUMBERED, [1]), (NUMBERED, []), (READY, []), (BUSY | 0x60, []), (AGAIN, []), (READY, [1]),
                (HELLO, [1]), (END, [1]), (YES, []), (DOWN, []), (WRONG, [1, 2, 3]), (0x03, []), (0x0D, [])]

    def test_down_greeting_ending(self):
        for stage in (DOWN_STAGE, GREETING_STAGE, ENDING_STAGE):
            for control, data in self.controls:
                probe = in_stage(stage)
                clock = probe.clock()
                self.assertEqual(probe.command(control, data, now=9), [])
                self.assertEqual(probe.command(control | BIT_FOUR, data, now=9), [[3, DOWN | BIT_FOUR]])
                self.assertEqual((probe.end.stage, probe.clock(), probe.end.arrived), (stage, clock, []))

    def test_stuck(self):
        for control, data in self.controls:
            for first in (0x03, 0x03 | BIT_FOUR):
                probe = up()
                probe.command(NUMBERED, [1])
                wrong = [first, 0x20, 1]
                self.assertEqual(probe.command(first), [[3, WRONG | first & BIT_FOUR] + wrong])
                self.assertEqual(probe.command(control, data), [])
                self.assertEqual(probe.command(control | BIT_FOUR, data), [[3, WRONG | BIT_FOUR] + wrong])
                self.assertEqual((probe.end.stage, probe.clock(), probe.end.arrived), (STUCK_STAGE, None, [[1]]))


class Numbered(unittest.TestCase):
    def test_the_awaited_one_waits_to_be_taken(self):
        for poll in (0, BIT_FOUR):
            probe = up()
            self.assertEqual(probe.command(NUMBERED | poll, [7, 8]), [[3, READY | 0x20 | poll]])
            self.assertEqual((probe.end.arrived, probe.numbers()), ([[7, 8]], (0, 0, 1)))

    def test_numbers_go_round(self):
        probe = up()
        for at in range(30):
            awaited = (at + 1) % 8
            self.assertEqual(probe.command(at % 8 << 1, [at]), [[3, READY | awaited << 5]])
        self.assertEqual(probe.end.arrived, [[at] for at in range(30)])

    def test_the_64th_and_the_65th(self):
        for poll in (0, BIT_FOUR):
            probe = up()
            for at in range(63):
                self.assertEqual(probe.command(at % 8 << 1 | poll, [at]), [[3, READY | (at + 1) % 8 << 5 | poll]])
            self.assertEqual(probe.command(63 % 8 << 1 | poll, [63]), [[3, BUSY | poll]])
            self.assertEqual(probe.command(NUMBERED | poll, [64]), [[3, BUSY | poll]])
            self.assertEqual((len(probe.end.arrived), probe.end.awaited), (64, 0))

    def test_there_is_room_again(self):
        probe = up()
        for at in range(64):
            probe.command(at % 8 << 1, [at])
        probe.end.arrived = probe.end.arrived[1:]
        self.assertEqual(probe.command(NUMBERED, [64]), [[3, BUSY | 0x20]])
        self.assertEqual(probe.end.arrived[-1], [64])

    def test_another_number_asks_again_once(self):
        for number in range(1, 8):
            probe = up()
            self.assertEqual(probe.command(number << 1, [1]), [[3, AGAIN]])
            self.assertTrue(probe.end.again_asked)
            self.assertEqual(probe.command(number << 1, [1]), [])
            self.assertEqual(probe.command(number << 1 | BIT_FOUR, [1]), [[3, READY | BIT_FOUR]])
            self.assertEqual((probe.end.arrived, probe.end.awaited), ([], 0))

    def test_the_again_has_its_f_and_what_is_awaited(self):
        probe = up()
        for at in range(3):
            probe.command(at << 1, [at])
        self.assertEqual(probe.command(0x02 | BIT_FOUR, [1]), [[3, AGAIN | 0x60 | BIT_FOUR]])

    def test_the_awaited_one_ends_the_asking(self):
        probe = up()
        probe.command(0x04, [2])
        self.assertEqual(probe.command(0x00, [0]), [[3, READY | 0x20]])
        self.assertFalse(probe.end.again_asked)
        self.assertEqual(probe.command(0x04, [2]), [[3, AGAIN | 0x20]])

    def test_when_full_the_awaited_one_does_not_end_the_asking(self):
        probe = up()
        for at in range(64):
            probe.command(at % 8 << 1, [at])
        self.assertEqual(probe.command(0x02, [1]), [[3, AGAIN]])
        self.assertEqual(probe.command(0x00, [1]), [[3, BUSY]])
        self.assertTrue(probe.end.again_asked)
        self.assertEqual(probe.command(0x02, [1]), [])
        self.assertEqual(probe.command(0x02 | BIT_FOUR, [1]), [[3, BUSY | BIT_FOUR]])

    def test_it_answers_too_whether_awaited_or_not(self):
        for number in (0, 3):
            probe = up()
            for at in range(3):
                probe.send(at)
            probe.sent()
            probe.command(2 << 5 | number << 1, [1])
            self.assertEqual((probe.end.leaving, probe.numbers()[:2]), ([[2]], (3, 2)))

    def test_message_of_1_and_1024_bytes(self):
        for size in (1, 1024):
            probe = up()
            self.assertEqual(probe.command(NUMBERED, [255] * size), [[3, READY | 0x20]])
            self.assertEqual(probe.end.arrived, [[255] * size])

    def test_what_may_goes_out_behind_the_answer(self):
        probe = up(window=1)
        probe.send(1)
        probe.send(2)
        probe.sent()
        self.assertEqual(probe.command(0x20, [9]), [[3, READY | 0x20], [1, 0x22, 2]])


class Reports(unittest.TestCase):
    def test_with_p_the_state_is_told(self):
        for control in (READY, BUSY, AGAIN):
            probe = up()
            probe.command(NUMBERED, [1])
            self.assertEqual(probe.command(control), [])
            self.assertEqual(probe.command(control | BIT_FOUR), [[3, READY | 0x20 | BIT_FOUR]])

    def test_with_p_and_64_messages_busy_is_told(self):
        for control in (READY, BUSY, AGAIN):
            probe = up()
            for at in range(64):
                probe.command(at % 8 << 1, [at])
            self.assertEqual(probe.command(control | BIT_FOUR), [[3, BUSY | BIT_FOUR]])

    def test_the_other_is_busy_just_by_busy(self):
        for control, busy in ((READY, False), (AGAIN, False), (BUSY, True)):
            probe = up()
            probe.command(BUSY)
            self.assertTrue(probe.end.other_busy)
            probe.command(control)
            self.assertEqual(probe.end.other_busy, busy)

    def test_a_numbered_one_leaves_the_other_busy(self):
        probe = up()
        probe.command(BUSY)
        probe.command(NUMBERED, [1])
        self.assertTrue(probe.end.other_busy)

    def test_as_commands_they_do_not_end_polling(self):
        for control in (READY, BUSY, AGAIN):
            probe = up()
            probe.end.polls = True
            probe.command(control | BIT_FOUR)
            self.assertTrue(probe.end.polls)

    def test_ready_as_a_command_with_p_while_it_polls_leaves_s(self):
        probe = up()
        probe.send(1)
        probe.end.polls = True
        probe.sent()
        probe.command(READY | BIT_FOUR)
        self.assertEqual(probe.numbers(), (1, 0, 0))

    def test_again_sends_again(self):
        probe = up(window=4)
        for at in range(6):
            probe.send(at, now=50)
        probe.sent()
        self.assertEqual(probe.command(AGAIN | 0x40 | BIT_FOUR, now=60),
                         [[3, READY | BIT_FOUR]] + [[1, at << 1, at] for at in (2, 3, 4, 5)])
        self.assertEqual((probe.numbers(), probe.end.sent_count, probe.clock()), ((6, 2, 0), 4, 60))

    def test_times_go_round(self):
        probe = up()
        probe.send(1, now=LATEST)
        probe.send(2, now=LATEST)
        probe.command(READY | 0x20, now=0)
        self.assertEqual(probe.clock(), 0)

    def test_every_stage_by_name(self):
        self.assertEqual(list(ALL_STAGES), [DOWN_STAGE, GREETING_STAGE, UP_STAGE, ENDING_STAGE, STUCK_STAGE])


if __name__ == "__main__":
    unittest.main()
