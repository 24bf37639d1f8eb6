"""The calls on the two ends, and their answers."""

from linekept.coming import take_frame
from linekept.frames import END, MOST_MESSAGE_BYTES
from linekept.lineend import LineEnd, MOST_MESSAGES, STAGE_DOWN, STAGE_ENDING, STAGE_UP

CALL_BEGIN = 0
CALL_CONNECT = 1
CALL_FINISH = 2
CALL_SEND = 3
CALL_BITS = 4
CALL_TICK = 5
CALL_OUTPUT = 6
CALL_TAKE = 7

# By the call's number: how many numbers it has, those of its row and their count apart.
HEAD_SIZES = (6, 3, 3, 3, 4, 3, 3, 3, 2)

MOST_BITS_IN_CALL = 524280
MOST_BYTES_IN_OUTPUT = 65536


def answers(calls):
    ends = [None, None]
    given = []
    start = 0
    while start < len(calls):
        behind_head = start + HEAD_SIZES[calls[start]]
        head = calls[start:behind_head]
        row = row_at(calls, behind_head) if has_row(head[0]) else []
        answer = answer_call(ends, head, row)
        given.append(len(answer))
        given.extend(answer)
        start = behind_head + (len(row) + 1 if has_row(head[0]) else 0)
    return given


def has_row(call):
    return call == CALL_SEND or call == CALL_BITS


def row_at(calls, place):
    return calls[place + 1:place + 1 + calls[place]]


# head: the call's number, the end's, then its other whole numbers.
def answer_call(ends, head, row):
    call = head[0]
    which = head[1]
    if call == CALL_BEGIN:
        return [begin(ends, which, head[2:])]
    end = ends[which]
    if end is None:
        return [-9]
    if call == CALL_BITS:
        return [bits(end, head[2], row, head[3])]
    if call == CALL_SEND:
        return [send(end, row, head[2])]
    return answer_without_row(end, call, head[2:])


def answer_without_row(end, call, numbers):
    if call == CALL_CONNECT:
        return [connect(end, numbers[0])]
    if call == CALL_FINISH:
        return [finish(end, numbers[0])]
    if call == CALL_TICK:
        return [tick(end, numbers[0])]
    if call == CALL_OUTPUT:
        return output(end, numbers[0])
    if call == CALL_TAKE:
        return take(end, numbers[0])
    return told(end)


def begin(ends, which, settings):
    side = settings[0]
    window = settings[1]
    patience = settings[2]
    tries = settings[3]
    if side < 0 or side > 1 or window < 1 or window > 7:
        return -2
    if patience == 0 or tries < 1 or tries > 100:
        return -2
    ends[which] = LineEnd(side, window, patience, tries)
    return 0


def connect(end, now):
    if end.stage != STAGE_DOWN:
        return -3
    end.greet(now)
    return 0


def finish(end, now):
    if end.stage != STAGE_UP:
        return -3
    end.stage = STAGE_ENDING
    end.send_command(END, 1)
    end.afresh()
    end.start_clock(now)
    return 0


def send(end, message, now):
    if len(message) < 1 or len(message) > MOST_MESSAGE_BYTES:
        return -2
    if len(end.leaving) >= MOST_MESSAGES:
        return -4
    end.leaving.append(message)
    end.go_out(now)
    return 0


def bits(end, count, data, now):
    if count < 0 or count > MOST_BITS_IN_CALL:
        return -2
    for place in range(count):
        frame = end.listener.hear_bit(data[place >> 3] >> (place & 7) & 1)
        if frame is not None:
            take_frame(end, frame, now)
    return 0


def tick(end, now):
    end.see_to_clock(now)
    return 0


def output(end, most):
    if most < 0 or most > MOST_BYTES_IN_OUTPUT:
        return [-2]
    data = end.outbox.hand_out(most)
    return [len(data)] + data


def take(end, most):
    if most < 0:
        return [-2]
    if len(end.arrived) == 0:
        return [0]
    message = end.arrived[0]
    if len(message) > most:
        return [-1]
    end.arrived = end.arrived[1:]
    return [len(message)] + message


def told(end):
    numbers = [end.next_number, end.first_open, end.awaited]
    return [0, end.stage] + numbers + [len(end.leaving), len(end.arrived)]
