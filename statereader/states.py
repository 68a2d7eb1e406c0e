"""What a byte, or the end, does in each state, told as steps that a reader takes one after another."""

START = 0
WORD = 1
MINUS = 2
ZERO = 3
WHOLE = 4
POINT = 5
FRACTION = 6
E = 7
SIGN = 8
EXPONENT = 9
TEXT = 10
ESCAPE = 11
HEX = 12
LOW = 13
COMMENT = 14
OVER = 15

END = -1

KIND_WORD = 1
KIND_WHOLE = 2
KIND_NUMBER = 3
KIND_TEXT = 4
KIND_MARK = 5

GO = "go"
ADD = "add"
HIGH_DIGIT = "high digit"
LOW_DIGIT = "low digit"
FINISH = "finish"
WRONG = "wrong"

BLANKS = (32, 9, 10, 13)
# { } [ ] : , =
MARKS = (123, 125, 91, 93, 58, 44, 61)


# The number is the byte, the digit or the kind that the deed is done with.
class Step:
    def __init__(self, deed, state, number):
        self.deed = deed
        self.state = state
        self.number = number


def goes(state):
    return Step(GO, state, 0)


def adds(byte, state):
    return Step(ADD, state, byte)


def finishes(kind):
    return Step(FINISH, START, kind)


def wrong():
    return Step(WRONG, OVER, 0)


def is_letter(c):
    return ord("A") <= c <= ord("Z") or ord("a") <= c <= ord("z") or c == ord("_")


def is_digit(c):
    return ord("0") <= c <= ord("9")


def is_e(c):
    return c == ord("e") or c == ord("E")


# -1 stands for all that is no hexadecimal digit, because no digit is worth less than 0.
def hex_value(c):
    if is_digit(c):
        return c - ord("0")
    if ord("a") <= c <= ord("f"):
        return c - ord("a") + 10
    if ord("A") <= c <= ord("F"):
        return c - ord("A") + 10
    return -1


def start_steps(c):
    if c in BLANKS:
        return [goes(START)]
    if is_letter(c):
        return [adds(c, WORD)]
    if c == ord("-"):
        return [adds(c, MINUS)]
    if c == ord("0"):
        return [adds(c, ZERO)]
    if is_digit(c):
        return [adds(c, WHOLE)]
    if c == ord("\""):
        return [goes(TEXT)]
    if c == ord("#"):
        return [goes(COMMENT)]
    if c in MARKS:
        return [adds(c, START), finishes(KIND_MARK)]
    if c == END:
        return [goes(OVER)]
    return [wrong()]


def finish_and_start(kind, c):
    # The byte behind a token is not part of it, so start has still to read it.
    return [finishes(kind)] + start_steps(c)


def word_steps(c):
    if is_letter(c) or is_digit(c):
        return [adds(c, WORD)]
    return finish_and_start(KIND_WORD, c)


def minus_steps(c):
    if c == ord("0"):
        return [adds(c, ZERO)]
    if is_digit(c):
        return [adds(c, WHOLE)]
    return [wrong()]


def zero_steps(c):
    if c == ord("."):
        return [adds(c, POINT)]
    if is_e(c):
        return [adds(c, E)]
    if is_digit(c) or is_letter(c):
        return [wrong()]
    return finish_and_start(KIND_WHOLE, c)


def whole_steps(c):
    if is_digit(c):
        return [adds(c, WHOLE)]
    if c == ord("."):
        return [adds(c, POINT)]
    if is_e(c):
        return [adds(c, E)]
    if is_letter(c):
        return [wrong()]
    return finish_and_start(KIND_WHOLE, c)


def point_steps(c):
    if is_digit(c):
        return [adds(c, FRACTION)]
    return [wrong()]


def fraction_steps(c):
    if is_digit(c):
        return [adds(c, FRACTION)]
    if is_e(c):
        return [adds(c, E)]
    if is_letter(c):
        return [wrong()]
    return finish_and_start(KIND_NUMBER, c)


def e_steps(c):
    if c == ord("+") or c == ord("-"):
        return [adds(c, SIGN)]
    if is_digit(c):
        return [adds(c, EXPONENT)]
    return [wrong()]


def sign_steps(c):
    if is_digit(c):
        return [adds(c, EXPONENT)]
    return [wrong()]


def exponent_steps(c):
    if is_digit(c):
        return [adds(c, EXPONENT)]
    if is_letter(c):
        return [wrong()]
    return finish_and_start(KIND_NUMBER, c)


def text_steps(c):
    if c == ord("\""):
        return [finishes(KIND_TEXT)]
    if c == ord("\\"):
        return [goes(ESCAPE)]
    # The end is -1, so it is wrong here together with the bytes below the blank.
    if c < 32:
        return [wrong()]
    return [adds(c, TEXT)]


def escape_steps(c):
    if c == ord("n"):
        return [adds(10, TEXT)]
    if c == ord("t"):
        return [adds(9, TEXT)]
    if c == ord("\\") or c == ord("\""):
        return [adds(c, TEXT)]
    if c == ord("x"):
        return [goes(HEX)]
    return [wrong()]


def hex_steps(c):
    digit = hex_value(c)
    if digit < 0:
        return [wrong()]
    return [Step(HIGH_DIGIT, LOW, digit)]


def low_steps(c):
    digit = hex_value(c)
    if digit < 0:
        return [wrong()]
    return [Step(LOW_DIGIT, TEXT, digit)]


def comment_steps(c):
    if c == 10:
        return [goes(START)]
    if c == END:
        return [goes(OVER)]
    return [goes(COMMENT)]


# By the states' numbers; over has none, since all that is handed to it is refused.
STEPS = (
    start_steps, word_steps, minus_steps, zero_steps, whole_steps, point_steps, fraction_steps, e_steps,
    sign_steps, exponent_steps, text_steps, escape_steps, hex_steps, low_steps, comment_steps,
)


def steps_of(state, c):
    return STEPS[state](c)
