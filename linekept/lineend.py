"""One end of the line: what it keeps, and the steps that the rules for calls and frames share."""

from linekept.frames import BUSY, END, FAULT_ANSWERED, HELLO, NUMBERED, READY, WRONG
from linekept.listener import Listener
from linekept.outbox import Outbox

STAGE_DOWN = 0
STAGE_GREETING = 1
STAGE_UP = 2
STAGE_ENDING = 3
STAGE_STUCK = 4

# As many messages may wait to go out, and as many to be taken.
MOST_MESSAGES = 64

# Times go round behind as many milliseconds.
ROUND_OF_TIME = 4294967296


class LineEnd:
    def __init__(self, side, window, patience, tries):
        self.command_address = 1 if side == 0 else 3
        self.answer_address = 3 if side == 0 else 1
        self.window = window
        self.patience = patience
        self.tries = tries
        self.stage = STAGE_DOWN
        self.listener = Listener()
        self.outbox = Outbox()
        # Not answered: first those that have been sent, then those that wait.
        self.leaving = []
        self.sent_count = 0
        self.arrived = []
        self.wrong_bytes = []
        self.clock_began = 0
        self.afresh()

    # The document's s is next_number, its a first_open, its r awaited.
    def afresh(self):
        self.next_number = 0
        self.first_open = 0
        self.awaited = 0
        self.other_busy = False
        self.again_asked = False
        self.polls = False
        self.stop_clock()
        self.times_out = 0
        self.lose_sent()

    def lose_sent(self):
        self.leaving = self.leaving[self.sent_count:]
        self.sent_count = 0

    def start_clock(self, now):
        self.clock_runs = True
        self.clock_began = now

    def stop_clock(self):
        self.clock_runs = False

    def clock_is_out(self, now):
        return self.clock_runs and (now - self.clock_began) % ROUND_OF_TIME >= self.patience

    def see_to_clock(self, now):
        if not self.clock_is_out(now):
            return
        self.times_out += 1
        if self.times_out > self.tries:
            self.give_up(now)
        else:
            self.start_clock(now)
            self.ask_anew()

    # The clock runs only when greeting, up or ending.
    def give_up(self, now):
        if self.stage == STAGE_UP:
            self.greet(now)
        else:
            self.go_down()

    def ask_anew(self):
        if self.stage == STAGE_GREETING:
            self.send_command(HELLO, 1)
        elif self.stage == STAGE_ENDING:
            self.send_command(END, 1)
        else:
            self.polls = True
            self.send_command(self.state_control(), 1)

    def greet(self, now):
        self.afresh()
        self.stage = STAGE_GREETING
        self.send_command(HELLO, 1)
        self.start_clock(now)

    def go_up(self):
        self.afresh()
        self.stage = STAGE_UP

    # What has been sent and not answered isn't lost here: it counts till the end is afresh.
    def go_down(self):
        self.stage = STAGE_DOWN
        self.stop_clock()

    # control: without bit 4, which is handed in apart.
    def send_command(self, control, poll):
        self.outbox.put_frame([self.command_address, control | poll << 4])

    def send_answer(self, control, final):
        self.outbox.put_frame([self.answer_address, control | final << 4])

    def state_control(self):
        kind = READY if len(self.arrived) < MOST_MESSAGES else BUSY
        return kind | self.awaited << 5

    def tell_state(self, final):
        self.send_answer(self.state_control(), final)

    def open_count(self):
        return (self.next_number - self.first_open) % 8

    def may_go_out(self):
        if self.stage != STAGE_UP or self.other_busy or self.polls:
            return False
        return self.open_count() < min(self.window, len(self.leaving))

    def go_out(self, now):
        while self.may_go_out():
            place = self.open_count()
            control = NUMBERED | self.next_number << 1 | self.awaited << 5
            self.outbox.put_frame([self.command_address, control] + self.leaving[place])
            self.next_number = (self.next_number + 1) % 8
            # After an again, what is sent anew has been counted already.
            self.sent_count = max(self.sent_count, place + 1)
            if not self.clock_runs:
                self.start_clock(now)

    # Says whether number may be; if not, the end is stuck.
    def answered_up_to(self, number, control, now):
        answered = (number - self.first_open) % 8
        if answered > self.sent_count:
            self.get_stuck(control, FAULT_ANSWERED)
            return False
        if answered > 0:
            # An again sets next_number back, yet what was sent before it may have come after all.
            if answered > self.open_count():
                self.next_number = number
            self.forget_answered(answered)
            self.first_open = number
            self.times_out = 0
            self.stop_clock()
            if self.sent_count > 0:
                self.start_clock(now)
        return True

    def forget_answered(self, answered):
        self.leaving = self.leaving[answered:]
        self.sent_count -= answered

    # control: the whole control byte of the bad frame.
    def get_stuck(self, control, fault):
        self.wrong_bytes = [control, self.awaited << 5 | self.next_number << 1, fault]
        self.send_wrong(control >> 4 & 1)
        self.stage = STAGE_STUCK
        self.stop_clock()
        self.lose_sent()

    def send_wrong(self, final):
        self.outbox.put_frame([self.answer_address, WRONG | final << 4] + self.wrong_bytes)
