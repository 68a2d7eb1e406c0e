"""How the tests write lists of calls and read their answers."""

from statereader.tokens import answers

START, WORD, MINUS, ZERO, WHOLE, POINT, FRACTION, E, SIGN, EXPONENT = range(10)
TEXT, ESCAPE, HEX, LOW, COMMENT, OVER = range(10, 16)
END = -1

# A text that leads from a line's beginning to each state but over.
WAY = {
    START: b"", WORD: b"a", MINUS: b"-", ZERO: b"0", WHOLE: b"1", POINT: b"0.", FRACTION: b"0.5", E: b"1e",
    SIGN: b"1e+", EXPONENT: b"1e5", TEXT: b'"', ESCAPE: b'"\\', HEX: b'"\\x', LOW: b'"\\x4', COMMENT: b"#",
}


def hand(state, c):
    return [1, state, c]


def run(cs):
    cs = list(cs)
    return [2, len(cs)] + cs


def where():
    return [3]


def way(state):
    """The calls, one or none, that lead to a state."""
    if state == OVER:
        return [run([END])]
    return [run(WAY[state])] if WAY[state] else []


def ask(*calls):
    """The numbers answered to these calls, each of which answers one."""
    answered = answers([number for call in calls for number in call])
    if len(answered) != 2 * len(calls) or any(count != 1 for count in answered[::2]):
        raise AssertionError(f"not one number for each of {len(calls)} calls: {answered}")
    return answered[1::2]
