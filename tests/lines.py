"""How the tests write lists of calls and read their answers."""

from statereader.tokens import answers

START, WORD, MINUS, ZERO, WHOLE, POINT, FRACTION, E, SIGN, EXPONENT = range(10)
TEXT, ESCAPE, HEX, LOW, COMMENT, OVER = range(10, 16)
END = -1

# A text that leads from a line's beginning to each state but over.
WAY = {
    START: b"", WORD: b"a", MINUS: b"-", ZERO: b"0", WHOLE: b"1", POINT: b"0.", FRACTION: b"0.5", E: b"1e",
    SIGN: b"1e+", EXPONENT: b"1e5", TEXT: b'"', ESCAPE: b'"\\', HEX: b'"\\x', LOW: b'"\\x4', COMMENT: b"#",
}

LETTERS = b"ABCDEFGHIJKLMNOPQRSTUVWXYZabcdefghijklmnopqrstuvwxyz_"
DIGITS = b"0123456789"
HEXES = b"0123456789abcdefABCDEF"

FROM_START = {
    b" \t\n\r": START, LETTERS: WORD, b"-": MINUS, b"0": ZERO, b"123456789": WHOLE, b'"': TEXT, b"#": COMMENT,
    b"{}[]:,=": START,
}

# The first group that a byte is in counts. FINISHES stands for what start does with it.
FINISHES = "finishes"
TOLD = {
    START: (FROM_START, OVER),
    WORD: ({LETTERS + DIGITS: WORD}, FINISHES),
    MINUS: ({b"0": ZERO, b"123456789": WHOLE}, OVER),
    ZERO: ({b".": POINT, b"eE": E, DIGITS + LETTERS: OVER}, FINISHES),
    WHOLE: ({DIGITS: WHOLE, b".": POINT, b"eE": E, LETTERS: OVER}, FINISHES),
    POINT: ({DIGITS: FRACTION}, OVER),
    FRACTION: ({DIGITS: FRACTION, b"eE": E, LETTERS: OVER}, FINISHES),
    E: ({b"+-": SIGN, DIGITS: EXPONENT}, OVER),
    SIGN: ({DIGITS: EXPONENT}, OVER),
    EXPONENT: ({DIGITS: EXPONENT, LETTERS: OVER}, FINISHES),
    TEXT: ({b'"': START, b"\\": ESCAPE, bytes(range(32)): OVER}, TEXT),
    ESCAPE: ({b'nt\\"': TEXT, b"x": HEX}, OVER),
    HEX: ({HEXES: LOW}, OVER),
    LOW: ({HEXES: TEXT}, OVER),
    COMMENT: ({b"\n": START}, COMMENT),
}


# The kind of the token that a state finishes.
KINDS = {WORD: 1, ZERO: 2, WHOLE: 2, FRACTION: 3, EXPONENT: 3}


def told(state, c):
    """The state after c."""
    if c == END:
        return OVER
    groups, rest = TOLD[state]
    for group, after in groups.items():
        if c in group:
            return after
    return told(START, c) if rest == FINISHES else rest


def finishes(state, c):
    """Whether c finishes the token that is being read in a state, and is handed to start then."""
    groups, rest = TOLD[state]
    return rest == FINISHES and not any(c in group for group in groups if c != END)


def is_wrong(state, c):
    """Whether c is wrong in a state, be it only in start behind a token."""
    if c == END:
        return state not in (START, COMMENT, *KINDS)
    return told(state, c) == OVER


def hand(state, c):
    return [1, state, c]


def run(cs):
    cs = list(cs)
    return [2, len(cs)] + cs


def where():
    return [3]


def kind():
    return [4]


def take(most):
    return [5, most]


def fault():
    return [6]


def way(state):
    """The calls, one or none, that lead to a state."""
    if state == OVER:
        return [run([END])]
    return [run(WAY[state])] if WAY[state] else []


def rows(*calls):
    """For each call the list of the numbers that are answered to it."""
    answered = answers([number for call in calls for number in call])
    found = []
    at = 0
    while at < len(answered):
        found.append(answered[at + 1:at + 1 + answered[at]])
        if answered[at] < 1 or len(found[-1]) != answered[at]:
            raise AssertionError(f"a count that is wrong at {at}: {answered}")
        at += 1 + answered[at]
    if len(found) != len(calls):
        raise AssertionError(f"{len(found)} answers to {len(calls)} calls: {answered}")
    return found


def ask(*calls):
    """The numbers answered to these calls, each of which answers one."""
    found = rows(*calls)
    if any(len(row) != 1 for row in found):
        raise AssertionError(f"not one number for each call: {found}")
    return [row[0] for row in found]


def tokens(*calls):
    """The kinds and bytes of all tokens that wait after these calls, in the order in which they are taken."""
    found = rows(*calls, *[kind(), take(255)] * 65)[len(calls):]
    waiting = []
    for asked, taken in zip(found[::2], found[1::2]):
        if asked == [0]:
            if taken != [-1]:
                raise AssertionError(f"no kind, but {taken} was taken")
        elif taken[0] != len(taken) - 1:
            raise AssertionError(f"how many bytes is told wrong: {taken}")
        else:
            waiting.append((asked[0], bytes(taken[1:])))
    return waiting
