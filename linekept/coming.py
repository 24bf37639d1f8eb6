"""What an end does with each frame that comes."""

from linekept.frames import AGAIN, BUSY, DOWN, END, FAULT_NONE, HELLO, NUMBERED, WRONG, YES
from linekept.frames import fault_of, kind_of
from linekept.lineend import MOST_MESSAGES, STAGE_ENDING, STAGE_GREETING, STAGE_STUCK, STAGE_UP


# frame: the address, the control byte and the bytes, without the sum.
def take_frame(end, frame, now):
    address = frame[0]
    # The other sends its commands with the address that this end's answers have.
    if address == end.answer_address:
        take_command(end, frame[1], frame[2:], now)
    elif address == end.command_address:
        take_answer(end, frame[1], frame[2:], now)
    end.go_out(now)


def bit_four(control):
    return control >> 4 & 1


def take_command(end, control, message, now):
    kind = kind_of(control)
    poll = bit_four(control)
    fault = fault_of(kind, True, len(message))
    if kind == HELLO and fault == FAULT_NONE:
        take_hello(end, poll)
    elif kind == END and fault == FAULT_NONE:
        take_end(end, poll)
    elif end.stage != STAGE_UP:
        refuse_command(end, poll)
    elif fault != FAULT_NONE:
        end.get_stuck(control, fault)
    elif kind == NUMBERED:
        take_numbered(end, control, message, now)
    else:
        take_report(end, control, True, now)


def take_hello(end, poll):
    if end.stage == STAGE_ENDING:
        end.send_answer(DOWN, poll)
        return
    end.send_answer(YES, poll)
    end.go_up()


def take_end(end, poll):
    if end.stage == STAGE_UP or end.stage == STAGE_STUCK:
        end.send_answer(YES, poll)
        end.go_down()
        return
    end.send_answer(DOWN, poll)
    if end.stage == STAGE_GREETING:
        end.go_down()


def refuse_command(end, poll):
    if poll == 0:
        return
    if end.stage == STAGE_STUCK:
        end.send_wrong(1)
    else:
        end.send_answer(DOWN, 1)


def take_numbered(end, control, message, now):
    poll = bit_four(control)
    if not end.answered_up_to(control >> 5, control, now):
        return
    if control >> 1 & 7 == end.awaited:
        if len(end.arrived) < MOST_MESSAGES:
            end.arrived.append(message)
            end.awaited = (end.awaited + 1) % 8
            end.again_asked = False
        end.tell_state(poll)
    elif not end.again_asked:
        end.send_answer(AGAIN | end.awaited << 5, poll)
        end.again_asked = True
    elif poll == 1:
        end.tell_state(1)


# A ready, busy or again, as a command or as an answer.
def take_report(end, control, is_command, now):
    kind = kind_of(control)
    asked = bit_four(control) == 1
    number = control >> 5
    end.other_busy = kind == BUSY
    if not end.answered_up_to(number, control, now):
        return
    if kind == AGAIN or (asked and end.polls and not is_command):
        end.next_number = number
    if asked and is_command:
        end.tell_state(1)
    elif asked:
        end.polls = False


def take_answer(end, control, message, now):
    kind = kind_of(control)
    fault = fault_of(kind, False, len(message))
    if fault != FAULT_NONE:
        if end.stage == STAGE_UP:
            end.get_stuck(control, fault)
    elif kind == YES:
        take_yes(end)
    elif kind == DOWN:
        end.go_down()
    elif end.stage == STAGE_UP:
        if kind == WRONG:
            end.greet(now)
        else:
            take_report(end, control, False, now)


def take_yes(end):
    if end.stage == STAGE_GREETING:
        end.go_up()
    elif end.stage == STAGE_ENDING:
        end.go_down()
