"""Promise 2: what each byte, and the end, does in each state."""

import unittest

from lines import (
    COMMENT, E, END, ESCAPE, EXPONENT, FRACTION, HEX, LOW, MINUS, OVER, POINT, SIGN, START, TEXT, WAY, WHOLE, WORD,
    ZERO, ask, hand, way, where,
)

LETTERS = b"ABCDEFGHIJKLMNOPQRSTUVWXYZabcdefghijklmnopqrstuvwxyz_"
DIGITS = b"0123456789"
HEXES = b"0123456789abcdefABCDEF"

FROM_START = {
    b" \t\n\r": START, LETTERS: WORD, b"-": MINUS, b"0": ZERO, b"123456789": WHOLE, b'"': TEXT, b"#": COMMENT,
    b"{}[]:,=": START,
}

# The first group that a byte is in counts. FINISHES stands for what start does with it.
FINISHES = "finishes"
TOLD = {
    START: (FROM_START, OVER),
    WORD: ({LETTERS + DIGITS: WORD}, FINISHES),
    MINUS: ({b"0": ZERO, b"123456789": WHOLE}, OVER),
    ZERO: ({b".": POINT, b"eE": E, DIGITS + LETTERS: OVER}, FINISHES),
    WHOLE: ({DIGITS: WHOLE, b".": POINT, b"eE": E, LETTERS: OVER}, FINISHES),
    POINT: ({DIGITS: FRACTION}, OVER),
    FRACTION: ({DIGITS: FRACTION, b"eE": E, LETTERS: OVER}, FINISHES),
    E: ({b"+-": SIGN, DIGITS: EXPONENT}, OVER),
    SIGN: ({DIGITS: EXPONENT}, OVER),
    EXPONENT: ({DIGITS: EXPONENT, LETTERS: OVER}, FINISHES),
    TEXT: ({b'"': START, b"\\": ESCAPE, bytes(range(32)): OVER}, TEXT),
    ESCAPE: ({b'nt\\"': TEXT, b"x": HEX}, OVER),
    HEX: ({HEXES: LOW}, OVER),
    LOW: ({HEXES: TEXT}, OVER),
    COMMENT: ({b"\n": START}, COMMENT),
}


def told(state, c):
    if c == END:
        return OVER
    groups, rest = TOLD[state]
    for group, after in groups.items():
        if c in group:
            return after
    return told(START, c) if rest == FINISHES else rest


class EveryByteInEveryState(unittest.TestCase):
    def test_the_way_leads_to_each_state(self):
        for state in WAY:
            with self.subTest(state=state):
                self.assertEqual(ask(*way(state), where())[-1], state)

    def test_every_byte_and_the_end(self):
        for state in WAY:
            for c in range(-1, 256):
                with self.subTest(state=state, c=c):
                    answered = ask(*way(state), hand(state, c), where())
                    self.assertEqual(answered[-2:], [told(state, c)] * 2)


class Singled(unittest.TestCase):
    """A few of the table's cells, written out by hand."""

    def check(self, state, c, after):
        with self.subTest(state=state, c=c):
            self.assertEqual(ask(*way(state), hand(state, c))[-1], after)

    def test_bytes_above_127(self):
        for c in (128, 200, 255):
            self.check(START, c, OVER)
            self.check(WORD, c, OVER)
            self.check(WHOLE, c, OVER)
            self.check(TEXT, c, TEXT)
            self.check(ESCAPE, c, OVER)
            self.check(HEX, c, OVER)
            self.check(LOW, c, OVER)
            self.check(COMMENT, c, COMMENT)

    def test_the_neighbours_of_letters_and_digits_are_wrong(self):
        for c in b"@[`{/:":
            self.check(HEX, c, OVER)
        for c in b"gG":
            self.check(HEX, c, OVER)
            self.check(LOW, c, OVER)
        for c in b"@`/":
            self.check(START, c, OVER)

    def test_the_underscore_is_a_letter(self):
        self.check(START, ord("_"), WORD)
        self.check(WORD, ord("_"), WORD)
        for state in (ZERO, WHOLE, FRACTION, EXPONENT):
            self.check(state, ord("_"), OVER)

    def test_a_number_may_stand_beside_what_is_no_letter(self):
        for state in (WORD, ZERO, WHOLE, FRACTION, EXPONENT):
            self.check(state, ord("-"), MINUS)
            self.check(state, ord('"'), TEXT)
            self.check(state, ord("#"), COMMENT)
            self.check(state, ord("="), START)
            self.check(state, ord("+"), OVER)

    def test_a_second_e_and_a_second_point_are_wrong(self):
        self.check(EXPONENT, ord("e"), OVER)
        self.check(EXPONENT, ord("E"), OVER)
        self.check(FRACTION, ord("."), OVER)
        self.check(EXPONENT, ord("."), OVER)

    def test_a_text_holds_from_32_on(self):
        self.check(TEXT, 31, OVER)
        self.check(TEXT, 10, OVER)
        self.check(TEXT, 32, TEXT)
        self.check(TEXT, 127, TEXT)

    def test_a_comment_ends_at_10_alone(self):
        self.check(COMMENT, 13, COMMENT)
        self.check(COMMENT, 0, COMMENT)
        self.check(COMMENT, 10, START)

    def test_the_end_is_over_in_each_state(self):
        for state in WAY:
            self.check(state, END, OVER)


if __name__ == "__main__":
    unittest.main()
