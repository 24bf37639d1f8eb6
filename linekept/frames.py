"""Frames as they stand on the line: control bytes, the sum, and the bits that are sent."""

# Control bytes with bit 4 and the numbers at 0.
NUMBERED = 0x00
READY = 0x01
BUSY = 0x05
AGAIN = 0x09
HELLO = 0x2F
END = 0x43
YES = 0x63
DOWN = 0x0F
WRONG = 0x87

MOST_MESSAGE_BYTES = 1024

# What the third byte of a wrong says.
FAULT_NONE = 0
FAULT_CONTROL = 1
FAULT_BYTES = 3
FAULT_TOO_MANY = 4
FAULT_ANSWERED = 8

FLAG_BITS = "01111110"

# The four bits of each half of a byte, the lowest first.
HALF_BITS = (
    "0000", "1000", "0100", "1100", "0010", "1010", "0110", "1110",
    "0001", "1001", "0101", "1101", "0011", "1011", "0111", "1111",
)

# Four steps of the CRC at once: with polynomial 8408H a byte bit by bit takes four times as long.
SUM_STEPS = (
    0x0000, 0x1081, 0x2102, 0x3183, 0x4204, 0x5285, 0x6306, 0x7387,
    0x8408, 0x9489, 0xA50A, 0xB58B, 0xC60C, 0xD68D, 0xE70E, 0xF78F,
)


def check_sum(data):
    total = 0xFFFF
    for byte in data:
        total = (total >> 4) ^ SUM_STEPS[(total ^ byte) & 15]
        total = (total >> 4) ^ SUM_STEPS[(total ^ (byte >> 4)) & 15]
    return total ^ 0xFFFF


def sum_bytes(data):
    total = check_sum(data)
    return [total & 255, total >> 8]


# The kind is the control byte without bit 4 and numbers; a control byte that isn't known
# gives a kind that is none of the names above.
def kind_of(control):
    if control & 1 == 0:
        return NUMBERED
    if control & 2 == 0:
        return control & 0x0F
    return control & 0xEF


def is_known(kind, is_command):
    if is_command:
        return kind in (NUMBERED, READY, BUSY, AGAIN, HELLO, END)
    return kind in (READY, BUSY, AGAIN, YES, DOWN, WRONG)


def fault_of(kind, is_command, size):
    # How many bytes there may be is said only of frames that there are, so this comes first.
    if not is_known(kind, is_command):
        return FAULT_CONTROL
    if kind == NUMBERED:
        if size == 0:
            return FAULT_BYTES
        if size > MOST_MESSAGE_BYTES:
            return FAULT_TOO_MANY
    elif size != (3 if kind == WRONG else 0):
        return FAULT_BYTES
    return FAULT_NONE


def bits_of_bytes(data):
    return "".join([HALF_BITS[byte & 15] + HALF_BITS[byte >> 4] for byte in data])


# text: the bits of whole bytes.
def bytes_of_text(text):
    return [int(text[start:start + 8][::-1], 2) for start in range(0, len(text), 8)]


# body: the address, the control byte and the bytes, without the sum.
def frame_bits(body):
    plain = bits_of_bytes(body + sum_bytes(body))
    return FLAG_BITS + plain.replace("11111", "111110") + FLAG_BITS


# How many bits the frame has at least, before any 0 is put in.
def least_frame_bits(body):
    return 8 * (len(body) + 4)
