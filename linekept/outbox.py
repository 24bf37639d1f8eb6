"""The bits that wait to be sent."""

from linekept.frames import bytes_of_text, frame_bits, least_frame_bits

MOST_BITS_WAITING = 1048576


class Outbox:
    def __init__(self):
        # The first of the frames may have been handed out in part: what's left of it stands here.
        self.frames = []
        self.size = 0
        self.built = {}

    # body: the address, the control byte and the bytes, without the sum.
    def put_frame(self, body):
        # Long frames may be asked for again thousands of times while there's no room for them.
        if self.size + least_frame_bits(body) > MOST_BITS_WAITING:
            return
        text = self.text_of(body)
        if self.size + len(text) > MOST_BITS_WAITING:
            return
        self.frames.append(text)
        self.size += len(text)

    # A frame may fit but for the 0s put in, which only building it tells. Lest it is built in vain
    # each time it's asked for again, the last one of each control byte is kept.
    def text_of(self, body):
        control = body[1]
        last = self.built.get(control)
        if last is None or last[0] != body:
            last = (body, frame_bits(body))
            self.built[control] = last
        return last[1]

    # Gives back so many bytes at most. The last one is filled up only where all bits fit in.
    def hand_out(self, most):
        text = self.cut_off(min(8 * most, self.size))
        return bytes_of_text(text + "1" * (-len(text) % 8))

    def cut_off(self, count):
        used = 0
        found = 0
        while found < count:
            found += len(self.frames[used])
            used += 1
        text = "".join(self.frames[:used])
        rest = [text[count:]] if found > count else []
        self.frames = rest + self.frames[used:]
        self.size -= count
        return text[:count]
