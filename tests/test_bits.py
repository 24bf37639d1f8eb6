"""The bits that come: how many, flags, zeros left out, sums, sizes of frames."""

import unittest

from helper import (FLAG, HELLO, LATEST, READY, Probe, begin, bits, bits_refused, firsts, frame, framed, inside, last,
                    packed, plain_bits, stage_seen, stuffed, sum_of, up)

HELLO_BITS = framed([3, HELLO])


class HowMany(unittest.TestCase):
    def test_bounds_of_n(self):
        self.assertEqual(last(begin(), bits("")), 0)
        self.assertEqual(last(begin(), bits("1")), 0)
        for n in (-1, -2147483648, 524281, 2147483647):
            self.assertEqual(last(begin(), bits_refused(n)), -2)

    def test_the_upper_bound_itself(self):
        # More bits than a list of calls can hold, so by the call's own function.
        probe = Probe()
        probe.hear_bits("1" * 524280)
        self.assertEqual(probe.hear_bits(HELLO_BITS), [[3, 0x63]])

    def test_no_bits_and_refused_ones_change_nothing(self):
        for call in (bits(""), bits_refused(-1), bits_refused(524281)):
            calls = [begin(), bits(HELLO_BITS[:30]), call, bits(HELLO_BITS[30:])]
            self.assertEqual(stage_seen(*calls), "up")

    def test_the_rest_of_the_last_byte_is_not_looked_at(self):
        for cut in range(len(HELLO_BITS)):
            for filler in "01":
                calls = [begin(), bits(HELLO_BITS[:cut], filler=filler), bits(HELLO_BITS[cut:], filler=filler)]
                self.assertEqual(stage_seen(*calls), "up", (cut, filler))

    def test_the_last_bit_counts(self):
        self.assertEqual(stage_seen(begin(), bits(HELLO_BITS[:-1])), "down")
        self.assertEqual(stage_seen(begin(), bits(HELLO_BITS[:-1]), bits("0")), "up")

    def test_lowest_bit_first(self):
        self.assertEqual(packed("1000000001"), [1, 2])
        turned = "".join(HELLO_BITS[at:at + 8][::-1] for at in range(0, len(HELLO_BITS), 8))
        self.assertEqual(stage_seen(begin(), bits(turned)), "down")


class Pieces(unittest.TestCase):
    def test_bit_by_bit(self):
        calls = [begin()] + [bits(bit) for bit in HELLO_BITS]
        self.assertEqual(stage_seen(*calls), "up")
        self.assertEqual(stage_seen(*calls[:-1]), "down")

    def test_message_in_pieces_of_any_length(self):
        message = [255, 0x7E, 0, 31, 248, 255, 255]
        text = framed([3, 0x00] + message)
        for step in (1, 3, 7, 8, 11, 50):
            probe = up()
            for at in range(0, len(text), step):
                probe.hear_bits(text[at:at + step])
            self.assertEqual(probe.end.arrived, [message])

    def test_the_time_is_that_of_the_piece_that_ends_the_frame(self):
        probe = Probe()
        probe.send(1)
        probe.hear_bits(HELLO_BITS[:-1], now=LATEST)
        probe.hear_bits(HELLO_BITS[-1:], now=3)
        self.assertEqual(probe.clock(), 3)


class Flags(unittest.TestCase):
    def heard(self, text):
        probe = up()
        probe.hear_bits(text)
        return probe.end.arrived

    def test_one_flag_between_two_frames(self):
        text = FLAG + inside([3, 0x00, 1]) + FLAG + inside([3, 0x02, 2]) + FLAG + inside([3, 0x04, 3]) + FLAG
        self.assertEqual(self.heard(text), [[1], [2], [3]])

    def test_two_and_more_flags_between_frames(self):
        for between in (FLAG * 2, FLAG * 7, FLAG + "1" * 15 + FLAG, FLAG + "0" * 15 + FLAG):
            text = FLAG + inside([3, 0x00, 1]) + between + inside([3, 0x02, 2]) + FLAG
            self.assertEqual(self.heard(text), [[1], [2]])

    def test_flags_that_share_their_zero(self):
        self.assertEqual(self.heard("011111101111110" + inside([3, 0x00, 1]) + FLAG[1:]), [])
        self.assertEqual(self.heard("011111101111110" + inside([3, 0x00, 1]) + FLAG), [[1]])

    def test_bits_ahead_of_the_first_flag(self):
        for ahead in ("", "0", "1", "0" * 100, "1" * 100, "10" * 50, inside([3, 0x0F | 0x10])):
            self.assertEqual(Probe().hear_bits(ahead + HELLO_BITS), [[3, 0x63]], ahead)

    def test_a_frame_without_a_flag_ahead_is_not_heard(self):
        probe = Probe()
        self.assertEqual(probe.hear_bits(inside([3, HELLO]) + FLAG), [])
        self.assertEqual(probe.hear_bits(inside([3, HELLO]) + FLAG), [[3, 0x63]])

    def test_a_frame_without_a_flag_behind_is_not_heard(self):
        self.assertEqual(self.heard(FLAG + inside([3, 0x00, 1])), [])
        self.assertEqual(self.heard(FLAG + inside([3, 0x00, 1]) + FLAG[:-1]), [])

    def test_six_1s_and_a_0_are_a_flag_on_a_new_line(self):
        probe = Probe()
        self.assertEqual(probe.hear_bits("1111110" + inside([3, HELLO]) + FLAG), [[3, 0x63]])

    def test_the_same_frame_behind_itself(self):
        self.assertEqual(Probe().hear_bits(HELLO_BITS * 3), [[3, 0x63]] * 3)


class SevenOnes(unittest.TestCase):
    def test_all_is_lost_till_the_next_flag(self):
        for ones in (7, 8, 15, 100):
            broken = "0" + "1" * ones + "0"
            probe = up()
            text = FLAG + inside([3, 0x00, 1])
            self.assertEqual(probe.hear_bits(text + broken + FLAG), [])
            self.assertEqual(probe.end.arrived, [])
            self.assertEqual(probe.hear_bits(inside([3, 0x00, 2]) + FLAG), [[3, 0x21]])
            self.assertEqual(probe.end.arrived, [[2]])

    def test_a_frame_ahead_of_the_next_flag_is_lost_with_it(self):
        probe = up()
        probe.hear_bits(FLAG + "1111111" + inside([3, 0x00, 1]) + FLAG + inside([3, 0x00, 2]) + FLAG)
        self.assertEqual(probe.end.arrived, [[2]])

    def test_two_1s_in_the_place_of_a_0_put_in(self):
        # But for the seven 1s all of the frame is there.
        text = inside([3, 0x00, 31, 0, 1])
        self.assertIn("1111100", text)
        probe = up()
        probe.hear_bits(FLAG + text.replace("1111100", "11111110", 1) + FLAG)
        self.assertEqual(probe.end.arrived, [])

    def test_seven_1s_and_a_0_are_not_a_flag(self):
        probe = up()
        probe.hear_bits("011111110" + inside([3, 0x00, 1]) + FLAG)
        self.assertEqual(probe.end.arrived, [])

    def test_the_flag_that_ends_a_frame_with_one_1_more(self):
        probe = up()
        probe.hear_bits(FLAG + inside([3, 0x00, 1]) + "011111110")
        self.assertEqual(probe.end.arrived, [])

    def test_in_pieces(self):
        probe = up()
        for piece in (FLAG + "0111", "1111", "0" + inside([3, 0x00, 1]), FLAG):
            probe.hear_bits(piece)
        self.assertEqual(probe.end.arrived, [])


class ZerosPutIn(unittest.TestCase):
    def test_bytes_full_of_ones(self):
        for message in ([255], [255] * 100, [31], [248], [62], [124], [0x7E], [0xF8, 0xFF, 0x1F], [0, 255, 0]):
            text = framed([3, 0x00] + message)
            self.assertIn("111110", text[8:-8])
            probe = up()
            probe.hear_bits(text)
            self.assertEqual(probe.end.arrived, [message])

    def test_a_0_that_was_not_put_in_is_missed(self):
        body = [3, 0x00, 31, 0, 0]
        bare = plain_bits(body + sum_of(body))
        self.assertNotEqual(bare, stuffed(bare))
        probe = up()
        probe.hear_bits(FLAG + bare + FLAG)
        self.assertEqual(probe.end.arrived, [])

    def test_a_0_put_in_just_ahead_of_the_flag(self):
        body = self.ending_in("111110")
        probe = up()
        probe.hear_bits(framed(body))
        self.assertEqual(probe.end.arrived, [body[2:]])

    def test_six_bits_go_also_where_the_flags_0_was_left_out(self):
        # Four 1s end the frame; with a fifth the flag's 0 is left out, and the fifth goes for it.
        body = self.ending_in("01111")
        probe = up()
        probe.hear_bits(FLAG + inside(body) + "1" + FLAG)
        self.assertEqual(probe.end.arrived, [body[2:]])

    def test_the_last_bit_goes_where_no_0_was_put_in_ahead_of_the_flag(self):
        body = self.ending_in("111110")
        probe = up()
        probe.hear_bits(FLAG + inside(body)[:-1] + FLAG)
        self.assertEqual(probe.end.arrived, [])

    def ending_in(self, ending):
        for low in range(256):
            for high in range(256):
                body = [3, 0x00, low, high]
                if inside(body).endswith(ending):
                    return body
        raise AssertionError(f"no frame ends in {ending}")


class Sums(unittest.TestCase):
    def test_right(self):
        self.assertEqual(sum_of([ord(sign) for sign in "123456789"]), [0x6E, 0x90])

    def test_each_bit_turned_makes_it_wrong(self):
        whole = [3, HELLO] + sum_of([3, HELLO])
        text = plain_bits(whole)
        self.assertEqual(Probe().hear_bits(FLAG + stuffed(text) + FLAG), [[3, 0x63]])
        for at in range(len(text)):
            turned = text[:at] + ("0" if text[at] == "1" else "1") + text[at + 1:]
            probe = Probe()
            self.assertEqual(probe.hear_bits(FLAG + stuffed(turned) + FLAG), [])
            self.assertEqual(probe.end.stage, 0)

    def test_its_bytes_the_wrong_way_round(self):
        total = sum_of([3, HELLO])
        text = stuffed(plain_bits([3, HELLO] + total[::-1]))
        self.assertEqual(Probe().hear_bits(FLAG + text + FLAG), [])

    def test_not_turned_over(self):
        total = [byte ^ 255 for byte in sum_of([3, HELLO])]
        text = stuffed(plain_bits([3, HELLO] + total))
        self.assertEqual(Probe().hear_bits(FLAG + text + FLAG), [])

    def test_a_frame_behind_a_wrong_one_is_heard(self):
        text = FLAG + stuffed(plain_bits([3, HELLO, 0, 0])) + FLAG + inside([3, HELLO]) + FLAG
        self.assertEqual(Probe().hear_bits(text), [[3, 0x63]])


class SizesOfFrames(unittest.TestCase):
    def test_four_whole_bytes(self):
        self.assertEqual(Probe().hear([3, HELLO]), [[3, 0x63]])

    def test_three_whole_bytes(self):
        # Were it looked at, an up end would take the missing control byte for something.
        probe = up()
        for address in (1, 3):
            self.assertEqual(probe.hear([address]), [])
        self.assertEqual(probe.end.stage, 2)

    def test_fewer_bytes(self):
        probe = up()
        for whole in ([], [3], [0, 0], sum_of([])):
            self.assertEqual(probe.hear_bits(FLAG + stuffed(plain_bits(whole)) + FLAG), [])
        self.assertEqual(probe.end.stage, 2)

    def test_1028_whole_bytes_and_one_less(self):
        for fill in (0, 0x55, 255):
            for size in (1023, 1024):
                probe = up()
                self.assertEqual(probe.command(0x00, [fill] * size), [[3, 0x21]])
                self.assertEqual(probe.end.arrived, [[fill] * size])

    def test_1029_whole_bytes_are_not_looked_at(self):
        for fill in (0, 255):
            probe = up()
            self.assertEqual(probe.command(0x00, [fill] * 1025), [])
            self.assertEqual((probe.end.stage, probe.end.arrived), (2, []))

    def test_bits_of_much_too_long_a_frame_are_not_kept(self):
        probe = up()
        probe.hear_bits(FLAG + "0" * 100000)
        self.assertLessEqual(len(probe.end.listener.kept), 8230)
        self.assertEqual(probe.hear_bits(FLAG + inside([3, 0x00, 2]) + FLAG), [[3, 0x21]])

    def test_too_long_a_frame_is_lost_with_what_stands_ahead_of_the_next_flag(self):
        probe = up()
        probe.hear_bits(FLAG + "0" * 8231 + inside([3, 0x00, 2]) + FLAG)
        self.assertEqual(probe.end.arrived, [])

    def test_not_whole_bytes(self):
        for more in range(1, 8):
            for bit in "01":
                body = [3, 0x00, 0]
                text = stuffed(plain_bits(body + sum_of(body)) + bit * more)
                probe = up()
                self.assertEqual(probe.hear_bits(FLAG + text + FLAG), [])
                self.assertEqual((probe.end.stage, probe.end.arrived), (2, []))

    def test_a_bit_less(self):
        body = [3, 0x00, 0]
        text = stuffed(plain_bits(body + sum_of(body))[:-1])
        self.assertEqual(up().hear_bits(FLAG + text + FLAG), [])


class Addresses(unittest.TestCase):
    def test_another_is_not_looked_at(self):
        for side in (0, 1):
            for address in range(256):
                if address in (1, 3):
                    continue
                probe = up(side=side)
                for control in (HELLO | 0x10, READY | 0x10, 0x00, 0x03, 0x0F):
                    self.assertEqual(probe.hear([address, control]), [])
                self.assertEqual(probe.end.stage, 2)

    def test_each_side_hears_and_tells(self):
        self.assertEqual(Probe(side=0).hear([3, HELLO]), [[3, 0x63]])
        self.assertEqual(Probe(side=1).hear([1, HELLO]), [[1, 0x63]])
        self.assertEqual(Probe(side=0).hear([1, HELLO]), [])
        self.assertEqual(Probe(side=1).hear([3, HELLO]), [])

    def test_by_calls(self):
        self.assertEqual(stage_seen(begin(), frame(2, HELLO)), "down")
        self.assertEqual(firsts(begin(), frame(2, HELLO)), [0, 0])


if __name__ == "__main__":
    unittest.main()
