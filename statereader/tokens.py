"""A reader that is handed bytes by its state and gives tokens, and the answers to a list of calls on one reader."""

from statereader.states import ADD, END, FINISH, HIGH_DIGIT, LOW_DIGIT, OVER, START, WRONG, steps_of

HAND = 1
RUN = 2
WHERE = 3
KIND = 4
TAKE = 5
FAULT = 6

REFUSED = -1
MOST_OUT_OF_RANGE = -2
NONE_WAITS = -1
MOST_TOO_SMALL = -3
NO_KIND = 0
NO_PLACE = -1
PLACES = 2147483648
HIGHEST_BYTE = 255
MOST_BYTES = 255
MOST_WAITING = 64


class UnknownCall(ValueError):
    pass


# A token waits as a tuple of its kind and its bytes, so that it can be taken later as it was finished.
class Reader:
    def __init__(self):
        self.state = START
        self.handed = 0
        self.current = []
        self.high = 0
        self.waiting = []
        self.fault_place = NO_PLACE

    def hand(self, state, c):
        if state != self.state or state == OVER or c < END or c > HIGHEST_BYTE:
            return REFUSED
        steps = steps_of(state, c)
        # Asked ahead of the first step, because one byte may finish two tokens and a refusal must change nothing.
        if len(self.waiting) + count_finished(steps) > MOST_WAITING:
            return REFUSED
        for step in steps:
            self.do_step(step)
        if c != END:
            self.handed += 1
        return self.state

    def run(self, cs):
        for c in cs:
            if self.hand(self.state, c) == REFUSED:
                return REFUSED
        return self.state

    def where(self):
        return self.state

    def kind(self):
        if len(self.waiting) == 0:
            return NO_KIND
        return self.waiting[0][0]

    def take(self, most):
        # Asked ahead of the tokens, because such a most is refused with -2 where none waits too.
        if most < 0 or most > MOST_BYTES:
            return [MOST_OUT_OF_RANGE]
        if len(self.waiting) == 0:
            return [NONE_WAITS]
        content = self.waiting[0][1]
        if most < len(content):
            return [MOST_TOO_SMALL]
        self.waiting.pop(0)
        return [len(content)] + content

    def fault(self):
        # The rest of -1 would be a place.
        if self.fault_place == NO_PLACE:
            return NO_PLACE
        return self.fault_place % PLACES

    def do_step(self, step):
        self.state = step.state
        if step.deed == ADD:
            self.add_byte(step.number)
        elif step.deed == HIGH_DIGIT:
            self.high = step.number
        elif step.deed == LOW_DIGIT:
            self.add_byte(self.high * 16 + step.number)
        elif step.deed == FINISH:
            self.waiting.append((step.number, self.current))
            self.current = []
        elif step.deed == WRONG:
            self.go_wrong()

    def add_byte(self, byte):
        if len(self.current) == MOST_BYTES:
            self.go_wrong()
        else:
            self.current.append(byte)

    def go_wrong(self):
        self.state = OVER
        self.fault_place = self.handed


def count_finished(steps):
    return len([step for step in steps if step.deed == FINISH])


def call_length(calls, at):
    call = calls[at]
    if call == HAND:
        return 3
    if call == RUN:
        return 2 + calls[at + 1]
    if call == TAKE:
        return 2
    if call == WHERE or call == KIND or call == FAULT:
        return 1
    raise UnknownCall(f"no call has the number {call}")


def answer_call(reader, call):
    if call[0] == HAND:
        return [reader.hand(call[1], call[2])]
    if call[0] == RUN:
        return [reader.run(call[2:])]
    if call[0] == WHERE:
        return [reader.where()]
    if call[0] == KIND:
        return [reader.kind()]
    if call[0] == TAKE:
        return reader.take(call[1])
    return [reader.fault()]


def answers(calls):
    reader = Reader()
    answered = []
    at = 0
    while at < len(calls):
        behind = at + call_length(calls, at)
        numbers = answer_call(reader, calls[at:behind])
        answered.append(len(numbers))
        answered.extend(numbers)
        at = behind
    return answered
