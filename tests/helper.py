"""Calls, frames and bits for the tests. The line's coding is written here anew, bit by bit, so
that a fault in the package's own coding can't hide behind itself."""

from linekept import ends
from linekept.ends import answers

FLAG = "01111110"
LATEST = 4294967295

NUMBERED, READY, BUSY, AGAIN = 0x00, 0x01, 0x05, 0x09
HELLO, END, YES, DOWN, WRONG = 0x2F, 0x43, 0x63, 0x0F, 0x87
BIT_FOUR = 0x10

DOWN_STAGE, GREETING_STAGE, UP_STAGE, ENDING_STAGE, STUCK_STAGE = range(5)
ALL_STAGES = range(5)


# The line's coding.

def sum_of(data):
    rest = 0xFFFF
    for byte in data:
        for place in range(8):
            turned = (rest ^ (byte >> place)) & 1
            rest = (rest >> 1) ^ (0x8408 if turned else 0)
    rest ^= 0xFFFF
    return [rest & 255, rest >> 8]


def plain_bits(data):
    return "".join(str(byte >> place & 1) for byte in data for place in range(8))


def stuffed(text):
    out, ones = "", 0
    for bit in text:
        out += bit
        ones = ones + 1 if bit == "1" else 0
        if ones == 5:
            out, ones = out + "0", 0
    return out


def inside(body):
    """The bits between the two flags of a frame with a right sum."""
    return stuffed(plain_bits(body + sum_of(body)))


def framed(body):
    return FLAG + inside(body) + FLAG


def packed(text, filler="0"):
    text += filler * (-len(text) % 8)
    return [int(text[at:at + 8][::-1], 2) for at in range(0, len(text), 8)]


def unframed(text):
    """The body of one frame as it's sent: a flag, the bytes with their sum, a flag."""
    assert text[:8] == FLAG and text[-8:] == FLAG, text
    out, ones = "", 0
    for bit in text[8:-8]:
        if ones == 5:
            assert bit == "0", text
            ones = 0
            continue
        out += bit
        ones = ones + 1 if bit == "1" else 0
    assert ones != 5 and len(out) % 8 == 0, text
    whole = packed(out)
    assert whole[-2:] == sum_of(whole[:-2]), text
    return whole[:-2]


# The calls, each as the numbers that stand in the list.

def begin(end=0, side=0, window=7, patience=1000, tries=10):
    return [0, end, side, window, patience, tries]


def connect(end=0, now=0):
    return [1, end, now]


def finish(end=0, now=0):
    return [2, end, now]


def send(data, end=0, now=0):
    return [3, end, now, len(data)] + data


def bits(text, end=0, now=0, filler="0"):
    data = packed(text, filler)
    return [4, end, len(text), now, len(data)] + data


def bits_refused(n, end=0, now=0):
    return [4, end, n, now, 0]


def frame(address, control, data=(), end=0, now=0):
    return bits(framed([address, control] + list(data)), end, now)


def tick(end=0, now=0):
    return [5, end, now]


def output(most=65536, end=0):
    return [6, end, most]


def take(most=1024, end=0):
    return [7, end, most]


def told(end=0):
    return [8, end]


# What is answered.

def replies(*calls):
    """The answers, each as a list of its numbers."""
    given = answers([number for call in calls for number in call])
    found = []
    while given:
        found.append(given[1:1 + given[0]])
        given = given[1 + given[0]:]
    assert len(found) == len(calls), found
    return found


def reply(*calls):
    return replies(*calls)[-1]


def firsts(*calls):
    """The first number of each answer, for calls that answer no more than that."""
    found = replies(*calls)
    assert all(len(answer) == 1 for answer in found), found
    return [answer[0] for answer in found]


def last(*calls):
    return firsts(*calls)[-1]


def told_of(*calls, end=0):
    """What told says behind the calls, but for its 0: stage, s, a, r, how many wait to go out and to be taken."""
    answer = reply(*calls, told(end))
    assert answer[0] == 0 and len(answer) == 7, answer
    return answer[1:]


def bytes_out(*calls, end=0):
    """What a last output hands out."""
    answer = reply(*calls, output(end=end))
    assert answer[0] == len(answer) - 1, answer
    return answer[1:]


def all_framed(*bodies):
    return "".join(framed(body) for body in bodies)


def sent_bytes(*bodies):
    """The bytes of these frames as an output hands them out, the last one filled up."""
    return packed(all_framed(*bodies), "1")


def frames_in(data):
    """The bodies of the frames in what was handed out; the filling is looked at too."""
    text = plain_bits(data)
    found = []
    while len(text) > 7:
        behind = text.index(FLAG, 8) + 8
        found.append(unframed(text[:behind]))
        text = text[behind:]
    assert text == "1" * len(text), text
    return found


def frames_out(*calls, end=0):
    return frames_in(bytes_out(*calls, end=end))


def hears_with(side):
    """The address of the commands that the side gets; its own answers have it too."""
    return 3 if side == 0 else 1


def asks_with(side):
    """The address of the side's own commands; it gets the other's answers with it."""
    return 1 if side == 0 else 3


def leading_to(stage, side=0, window=7, patience=1000, tries=10, now=0):
    """Calls that bring end 0 to the stage, s, a and r at 0, with nothing left to be sent."""
    calls = [begin(0, side, window, patience, tries)]
    if stage == GREETING_STAGE:
        calls.append(connect(now=now))
    if stage in (UP_STAGE, ENDING_STAGE, STUCK_STAGE):
        calls.append(frame(hears_with(side), HELLO))
    if stage == ENDING_STAGE:
        calls.append(finish(now=now))
    if stage == STUCK_STAGE:
        calls.append(frame(hears_with(side), 0x03))
    return calls + [output()]


def stage_seen(*calls, end=0):
    """What connect and finish, each tried behind the calls, tell of the stage."""
    if last(*calls, connect(end)) == 0:
        return "down"
    return "up" if last(*calls, finish(end)) == 0 else "neither"


class Probe:
    """One end whose inside is looked at."""

    def __init__(self, side=0, window=7, patience=1000, tries=10):
        both = [None, None]
        assert ends.answer_call(both, begin(0, side, window, patience, tries), []) == [0]
        self.end = both[0]
        self.sends, self.gets = (1, 3) if side == 0 else (3, 1)

    def sent(self):
        """The frames that have been sent since this was asked last."""
        found = [unframed(text) for text in self.end.outbox.frames]
        self.end.outbox.frames = []
        self.end.outbox.size = 0
        return found

    def command(self, control, data=(), now=0):
        return self.hear([self.gets, control] + list(data), now)

    def answer(self, control, data=(), now=0):
        return self.hear([self.sends, control] + list(data), now)

    def hear(self, body, now=0):
        return self.hear_bits(framed(body), now)

    def hear_bits(self, text, now=0):
        assert ends.bits(self.end, len(text), packed(text), now) == 0
        return self.sent()

    def connect(self, now=0):
        return ends.connect(self.end, now)

    def finish(self, now=0):
        return ends.finish(self.end, now)

    def send(self, *data, now=0):
        return ends.send(self.end, list(data), now)

    def numbers(self):
        return (self.end.next_number, self.end.first_open, self.end.awaited)

    def clock(self):
        """When it began to run, or None if it isn't running."""
        return self.end.clock_began if self.end.clock_runs else None


def up(**settings):
    probe = Probe(**settings)
    probe.command(HELLO)
    assert probe.end.stage == UP_STAGE
    return probe


def in_stage(stage, **settings):
    probe = Probe(**settings)
    if stage == GREETING_STAGE:
        probe.connect()
    if stage in (UP_STAGE, ENDING_STAGE, STUCK_STAGE):
        probe.command(HELLO)
    if stage == ENDING_STAGE:
        probe.finish()
    if stage == STUCK_STAGE:
        probe.command(0x03)
    probe.sent()
    assert probe.end.stage == stage
    return probe


class Line:
    """Two ends, asked call by call. All is kept, so that it can be handed in as one list as well."""

    def __init__(self, *calls):
        self.ends = [None, None]
        self.calls = []
        self.given = []
        for call in calls:
            self.ask(call)

    def ask(self, call):
        head, row = call, []
        if call[0] in (3, 4):
            size = call[0]
            head, row = call[:size], call[size + 1:]
        answer = ends.answer_call(self.ends, head, row)
        self.calls += call
        self.given += [len(answer)] + answer
        return answer
