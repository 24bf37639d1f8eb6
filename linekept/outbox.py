"""The bits that wait to be sent."""

from linekept.frames import frame_bits, least_frame_bits

MOST_BITS_WAITING = 1048576


class Outbox:
    def __init__(self):
        self.frames = []
        self.size = 0
        self.built = {}

    # body: the address, the control byte and the bytes, without the sum.
    def put_frame(self, body):
        # Long frames may be asked for again thousands of times while there's no room for them.
        if self.size + least_frame_bits(body) > MOST_BITS_WAITING:
            return
        text = self.text_of(body)
        if self.size + len(text) > MOST_BITS_WAITING:
            return
        self.frames.append(text)
        self.size += len(text)

    # A frame may fit but for the 0s put in, which only building it tells. Lest it is built in vain
    # each time it's asked for again, the last one of each control byte is kept.
    def text_of(self, body):
        control = body[1]
        last = self.built.get(control)
        if last is None or last[0] != body:
            last = (body, frame_bits(body))
            self.built[control] = last
        return last[1]
