"""Promise 2: what each byte, and the end, does in each state."""

import unittest

from lines import (
    COMMENT, END, ESCAPE, EXPONENT, FRACTION, HEX, LOW, MINUS, OVER, START, TEXT, WAY, WHOLE, WORD, ZERO, ask, hand,
    told, way, where,
)


class EveryByteInEveryState(unittest.TestCase):
    def test_the_way_leads_to_each_state(self):
        for state in WAY:
            with self.subTest(state=state):
                self.assertEqual(ask(*way(state), where())[-1], state)

    def test_every_byte_and_the_end(self):
        for state in WAY:
            for c in range(-1, 256):
                with self.subTest(state=state, c=c):
                    answered = ask(*way(state), hand(state, c), where())
                    self.assertEqual(answered[-2:], [told(state, c)] * 2)


class Singled(unittest.TestCase):
    """A few of the table's cells, written out by hand."""

    def check(self, state, c, after):
        with self.subTest(state=state, c=c):
            self.assertEqual(ask(*way(state), hand(state, c))[-1], after)

    def test_bytes_above_127(self):
        for c in (128, 200, 255):
            self.check(START, c, OVER)
            self.check(WORD, c, OVER)
            self.check(WHOLE, c, OVER)
            self.check(TEXT, c, TEXT)
            self.check(ESCAPE, c, OVER)
            self.check(HEX, c, OVER)
            self.check(LOW, c, OVER)
            self.check(COMMENT, c, COMMENT)

    def test_the_neighbours_of_letters_and_digits_are_wrong(self):
        for c in b"@[`{/:":
            self.check(HEX, c, OVER)
        for c in b"gG":
            self.check(HEX, c, OVER)
            self.check(LOW, c, OVER)
        for c in b"@`/":
            self.check(START, c, OVER)

    def test_the_underscore_is_a_letter(self):
        self.check(START, ord("_"), WORD)
        self.check(WORD, ord("_"), WORD)
        for state in (ZERO, WHOLE, FRACTION, EXPONENT):
            self.check(state, ord("_"), OVER)

    def test_a_number_may_stand_beside_what_is_no_letter(self):
        for state in (WORD, ZERO, WHOLE, FRACTION, EXPONENT):
            self.check(state, ord("-"), MINUS)
            self.check(state, ord('"'), TEXT)
            self.check(state, ord("#"), COMMENT)
            self.check(state, ord("="), START)
            self.check(state, ord("+"), OVER)

    def test_a_second_e_and_a_second_point_are_wrong(self):
        self.check(EXPONENT, ord("e"), OVER)
        self.check(EXPONENT, ord("E"), OVER)
        self.check(FRACTION, ord("."), OVER)
        self.check(EXPONENT, ord("."), OVER)

    def test_a_text_holds_from_32_on(self):
        self.check(TEXT, 31, OVER)
        self.check(TEXT, 10, OVER)
        self.check(TEXT, 32, TEXT)
        self.check(TEXT, 127, TEXT)

    def test_a_comment_ends_at_10_alone(self):
        self.check(COMMENT, 13, COMMENT)
        self.check(COMMENT, 0, COMMENT)
        self.check(COMMENT, 10, START)

    def test_the_end_is_over_in_each_state(self):
        for state in WAY:
            self.check(state, END, OVER)


if __name__ == "__main__":
    unittest.main()
