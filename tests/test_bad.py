"""Bad frames."""

import unittest

from linekept.frames import fault_of
from helper import (AGAIN, ALL_STAGES, BIT_FOUR, BUSY, DOWN, END, HELLO, NUMBERED, READY, STUCK_STAGE, UP_STAGE, WRONG,
                    YES, in_stage, up)

UNKNOWN = [control for control in range(256)
           if control & 1 and control & 0x0F not in (1, 5, 9) and control & 0xEF not in (0x2F, 0x43, 0x63, 0x0F, 0x87)]


class Case(unittest.TestCase):
    def check_stuck(self, probe, found, control, fault, numbers=(0, 0)):
        second = numbers[1] << 5 | numbers[0] << 1
        self.assertEqual(found, [[3, WRONG | control & BIT_FOUR, control, second, fault]])
        self.assertEqual((probe.end.stage, probe.clock()), (STUCK_STAGE, None))


class Controls(Case):
    def test_not_known(self):
        self.assertEqual(len(UNKNOWN), 128 - 3 * 16 - 5 * 2)
        for control in UNKNOWN:
            probe = up()
            self.check_stuck(probe, probe.command(control), control, 1)
            probe = up()
            self.check_stuck(probe, probe.answer(control), control, 1)

    def test_every_known_command(self):
        numbered = [(control, [1]) for control in range(0, 32, 2)]
        for control, data in numbered + [(kind, []) for kind in (READY, BUSY, AGAIN, HELLO, END)]:
            for bit in (0, BIT_FOUR):
                probe = up()
                probe.command(control | bit, data)
                self.assertNotEqual(probe.end.stage, STUCK_STAGE)

    def test_answers_as_commands(self):
        for control, data in ((YES, []), (DOWN, []), (WRONG, [1, 2, 3])):
            for bit in (0, BIT_FOUR):
                probe = up()
                self.check_stuck(probe, probe.command(control | bit, data), control | bit, 1)

    def test_commands_as_answers(self):
        for control, data in ((NUMBERED, [1]), (HELLO, []), (END, [])):
            for bit in (0, BIT_FOUR):
                probe = up()
                self.check_stuck(probe, probe.answer(control | bit, data), control | bit, 1)
                self.assertEqual(probe.end.arrived, [])

    def test_a_numbered_answer_answers_nothing(self):
        probe = up()
        probe.send(1)
        probe.sent()
        self.check_stuck(probe, probe.answer(7 << 5, [1]), 7 << 5, 1, (1, 0))


class Bytes(Case):
    def test_where_none_may_be(self):
        for control in (READY, BUSY, AGAIN, HELLO, END):
            for size in (1, 3, 1024):
                probe = up()
                self.check_stuck(probe, probe.command(control, [0] * size), control, 3)
        for control in (READY, BUSY, AGAIN, YES, DOWN):
            for size in (1, 3, 1024):
                probe = up()
                self.check_stuck(probe, probe.answer(control | BIT_FOUR, [0] * size), control | BIT_FOUR, 3)

    def test_none_where_some_must(self):
        probe = up()
        self.check_stuck(probe, probe.command(NUMBERED), NUMBERED, 3)

    def test_not_three_in_a_wrong(self):
        for size in (0, 1, 2, 4, 1024):
            probe = up()
            self.check_stuck(probe, probe.answer(WRONG, [0] * size), WRONG, 3)

    def test_too_many(self):
        # No frame that is looked at has so many, so by the rule's own function.
        self.assertEqual(fault_of(NUMBERED, True, 1024), 0)
        self.assertEqual(fault_of(NUMBERED, True, 1025), 4)


class Answered(Case):
    def test_up_to_what_cannot_be(self):
        for control in (READY, BUSY, AGAIN):
            probe = up()
            self.check_stuck(probe, probe.command(control | 0x20), control | 0x20, 8)
            probe = up()
            self.check_stuck(probe, probe.answer(control | 0x20 | BIT_FOUR), control | 0x20 | BIT_FOUR, 8)

    def test_nothing_more_of_a_numbered_one(self):
        for number in (0, 1):
            probe = up()
            control = 0x20 | number << 1 | BIT_FOUR
            self.check_stuck(probe, probe.command(control, [1]), control, 8)
            self.assertEqual((probe.end.arrived, probe.end.awaited, probe.end.again_asked), ([], 0, False))

    def test_nothing_more_of_an_again(self):
        probe = up()
        probe.send(1)
        probe.sent()
        self.check_stuck(probe, probe.command(AGAIN | 0x60), AGAIN | 0x60, 8, (1, 0))
        self.assertEqual(probe.numbers(), (1, 0, 0))


class FirstOf(Case):
    def test_3_ahead_of_8(self):
        probe = up()
        self.check_stuck(probe, probe.command(0x20), 0x20, 3)
        probe = up()
        self.check_stuck(probe, probe.answer(READY | 0x20, [1]), READY | 0x20, 3)

    def test_1_whatever_bytes_the_frame_has(self):
        for size in (0, 1, 2, 3, 4, 1024):
            for control in (0x03, YES, DOWN, WRONG):
                probe = up()
                self.check_stuck(probe, probe.command(control, [7] * size), control, 1)
            for control in (0x03, NUMBERED, HELLO, END):
                probe = up()
                self.check_stuck(probe, probe.answer(control, [7] * size), control, 1)

    def test_1_ahead_of_4(self):
        # No frame that is looked at has so many bytes, so by the rule's own function.
        self.assertEqual(fault_of(NUMBERED, False, 1025), 1)
        self.assertEqual(fault_of(0x03, True, 1025), 1)

    def test_3_ahead_of_4(self):
        self.assertEqual(fault_of(READY, True, 1025), 3)
        self.assertEqual(fault_of(WRONG, False, 1025), 3)

    def test_1_ahead_of_8(self):
        probe = up()
        self.check_stuck(probe, probe.answer(0x20, [1]), 0x20, 1)


class Stuck(Case):
    def test_second_byte_has_r_and_s(self):
        for leaving in range(8):
            for coming in range(8):
                probe = up()
                for at in range(coming):
                    probe.command(at << 1, [at])
                for at in range(leaving):
                    probe.send(at)
                probe.sent()
                self.check_stuck(probe, probe.command(0x03), 0x03, 1, (leaving, coming))

    def test_sent_ones_are_lost_the_others_wait(self):
        probe = up(window=2)
        for at in range(5):
            probe.send(at)
        probe.command(0x00, [9])
        probe.sent()
        probe.command(0x03)
        self.assertEqual((probe.end.leaving, probe.end.sent_count), ([[2], [3], [4]], 0))
        self.assertEqual((probe.end.arrived, probe.clock()), ([[9]], None))

    def test_nothing_goes_out(self):
        probe = in_stage(STUCK_STAGE)
        probe.send(1)
        self.assertEqual(probe.answer(READY), [])
        self.assertEqual(probe.sent(), [])

    def test_a_hello_brings_it_up(self):
        probe = up(window=1)
        probe.send(1)
        probe.send(2)
        probe.command(0x03)
        self.assertEqual(probe.command(HELLO | BIT_FOUR), [[3, YES | BIT_FOUR], [1, 0x00, 2]])
        self.assertEqual(probe.end.stage, UP_STAGE)


class OtherStages(unittest.TestCase):
    def test_bad_answers_are_nothing(self):
        for stage in ALL_STAGES:
            if stage == UP_STAGE:
                continue
            for control, data in ((0x03, []), (YES, [1]), (DOWN, [1]), (WRONG, []), (HELLO, []), (END, []),
                                  (NUMBERED, [1]), (NUMBERED, []), (READY, [1])):
                for final in (0, BIT_FOUR):
                    probe = in_stage(stage)
                    clock = probe.clock()
                    self.assertEqual(probe.answer(control | final, data, now=9), [])
                    self.assertEqual((probe.end.stage, probe.clock()), (stage, clock))


if __name__ == "__main__":
    unittest.main()
