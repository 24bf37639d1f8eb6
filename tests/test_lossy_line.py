"""Two ends that talk to one another, by calls alone, over a line that turns, loses and makes bits.

An end that has all its messages answered while it polls, and then misses the answer with f, polls on without a
clock, as the document's words have it. The seeds here are such as don't come to that."""

import random
import unittest

from linekept.ends import answers
from helper import DOWN_STAGE, UP_STAGE, Line, begin, bits, connect, finish, output, plain_bits, send, take, tick, told

PATIENCE = 50


class Talk:
    """Two ends up, with what each is to send, on a line where so many of a thousand bits come wrong."""

    def __init__(self, seed, wrong, windows=(7, 7), most=65536):
        self.chance = random.Random(seed)
        self.wrong = wrong
        self.most = most
        self.now = 0
        self.line = Line(begin(0, 0, windows[0], PATIENCE, 100), begin(1, 1, windows[1], PATIENCE, 100), connect(0))
        self.taken = [[], []]
        self.turned = 0
        self.till(lambda: self.stages() == [UP_STAGE, UP_STAGE])

    def stages(self):
        return [self.line.ask(told(end))[1] for end in (0, 1)]

    def carried(self, text):
        out = ""
        for bit in text:
            if self.chance.random() * 1000 >= self.wrong:
                out += bit
                continue
            self.turned += 1
            out += self.chance.choice(["1" if bit == "0" else "0", "", bit + "0", bit + "1"])
        return out

    def carry(self, end):
        """Whether there was anything to carry from this end to the other."""
        data = self.line.ask(output(self.most, end))[1:]
        if data:
            self.line.ask(bits(self.carried(plain_bits(data)), 1 - end, self.now))
        return bool(data)

    def take_all(self):
        for end in (0, 1):
            message = self.line.ask(take(1024, end))[1:]
            while message:
                self.taken[end].append(message)
                message = self.line.ask(take(1024, end))[1:]

    def till(self, done):
        for _ in range(2000):
            self.take_all()
            if done():
                return
            # Time goes by only while nothing is on the line.
            if not any([self.carry(0), self.carry(1)]):
                self.now = (self.now + PATIENCE) % 4294967296
                self.line.ask(tick(0, self.now))
                self.line.ask(tick(1, self.now))
        raise AssertionError("not done")

    def send_all(self, leaving):
        """Sends what each end has to, as there's room, till all has come and is answered."""
        left = [list(messages) for messages in leaving]

        def done():
            for end in (0, 1):
                while left[end] and self.line.ask(send(left[end][0], end, self.now)) == [0]:
                    left[end].pop(0)
            return not any(left) and [self.line.ask(told(end))[5] for end in (0, 1)] == [0, 0]

        self.till(done)


def messages(seed, count, size):
    chance = random.Random(seed)
    return [[chance.choice([255, 0, 0x7E, chance.randrange(256)]) for _ in range(chance.randrange(1, size + 1))]
            for _ in range(count)]


class OneWay(unittest.TestCase):
    def test_all_messages_come_in_their_order(self):
        for seed in range(12):
            for windows in ((1, 1), (7, 7), (3, 7)):
                leaving = messages(seed, 100, 20)
                talk = Talk(seed, 2, windows)
                talk.send_all([leaving, []])
                self.assertEqual(talk.taken, [[], leaving])
                self.assertGreater(talk.turned, 0)

    def test_the_other_way(self):
        for seed in range(6):
            leaving = messages(seed, 60, 60)
            talk = Talk(seed, 1)
            talk.send_all([[], leaving])
            self.assertEqual(talk.taken, [leaving, []])

    def test_in_pieces_of_few_bytes(self):
        for most in (1, 3, 10):
            leaving = messages(most, 20, 10)
            talk = Talk(most, 1, most=most)
            talk.send_all([leaving, []])
            self.assertEqual(talk.taken, [[], leaving])

    def test_a_talk_as_one_list_of_calls(self):
        talk = Talk(5, 3)
        leaving = messages(5, 12, 20)
        talk.send_all([leaving, []])
        self.assertEqual(talk.taken[1], leaving)
        self.assertLessEqual(len(talk.line.calls), 30000)
        self.assertEqual(answers(talk.line.calls), talk.line.given)


class BothWays(unittest.TestCase):
    def test_all_messages_come_in_their_order(self):
        for seed in range(10):
            for wrong in (1, 3):
                leaving = [messages(seed, 60, 20), messages(seed + 100, 60, 20)]
                talk = Talk(seed, wrong)
                talk.send_all(leaving)
                self.assertEqual(talk.taken, leaving[::-1])

    def test_on_a_line_without_faults(self):
        for windows in ((1, 1), (2, 7), (7, 7)):
            leaving = [messages(1, 200, 100), messages(2, 150, 100)]
            talk = Talk(1, 0, windows)
            talk.send_all(leaving)
            self.assertEqual((talk.taken, talk.turned), (leaving[::-1], 0))

    def test_finish_on_a_line_that_loses(self):
        for seed in range(10):
            talk = Talk(seed, 8)
            talk.line.ask(finish(seed % 2, talk.now))
            talk.till(lambda: talk.stages() == [DOWN_STAGE, DOWN_STAGE])


if __name__ == "__main__":
    unittest.main()
