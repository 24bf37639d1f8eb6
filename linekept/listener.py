"""The hearing side of the line: bits come one by one, frames with a right sum come out."""

from linekept.frames import sum_bytes

LEAST_FRAME_BYTES = 4

# The 0 and five 1s of the flag that ends a frame have been kept by the time it is known as one.
FLAG_BITS_KEPT = 6

# The 1028 bytes of the longest frame, and the six bits of the flag behind it. As no more is kept,
# no longer frame is ever looked at.
MOST_BITS_KEPT = 8230


class Listener:
    def __init__(self):
        self.kept = []
        self.ones = 0
        self.lost = True

    # Gives back the address, the control byte and the bytes of a frame that this bit ends,
    # if there's one that is to be looked at; else None.
    def hear_bit(self, bit):
        if bit == 1:
            self.hear_one()
            return None
        ones = self.ones
        self.ones = 0
        if ones == 6:
            return self.hear_flag()
        if ones != 5:
            self.keep_bit(0)
        return None

    def hear_one(self):
        self.ones += 1
        if self.ones < 6:
            self.keep_bit(1)
        elif self.ones > 6:
            self.lose_bits()

    def keep_bit(self, bit):
        if self.lost:
            return
        self.kept.append(bit)
        if len(self.kept) > MOST_BITS_KEPT:
            self.lose_bits()

    def lose_bits(self):
        self.lost = True
        self.kept = []

    def hear_flag(self):
        kept = self.kept
        self.kept = []
        self.lost = False
        return frame_in(kept[:-FLAG_BITS_KEPT])


def frame_in(kept):
    if len(kept) % 8 != 0:
        return None
    whole = bytes_of_bits(kept)
    if len(whole) < LEAST_FRAME_BYTES or whole[-2:] != sum_bytes(whole[:-2]):
        return None
    return whole[:-2]


def bytes_of_bits(kept):
    found = []
    for start in range(0, len(kept), 8):
        byte = 0
        for place in range(8):
            byte |= kept[start + place] << place
        found.append(byte)
    return found
