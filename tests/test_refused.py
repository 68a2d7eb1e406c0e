"""Promise 2: what is refused, with -1 and nothing changed."""

import unittest

from lines import END, LOW, OVER, START, TEXT, WAY, WHOLE, WORD, ask, hand, run, way, where


class WrongStateOrByte(unittest.TestCase):
    def test_another_state_than_the_readers(self):
        for state in [*WAY, OVER]:
            for other in range(16):
                if other != state:
                    with self.subTest(state=state, other=other):
                        for c in (END, 32, ord("a"), ord("0"), ord('"'), ord(",")):
                            answered = ask(*way(state), hand(other, c), where())
                            self.assertEqual(answered[-2:], [-1, state])

    def test_c_that_is_neither_a_byte_nor_the_end(self):
        for state in [*WAY, OVER]:
            for c in (-2, 256, -256, 257, -2147483648, 2147483647):
                with self.subTest(state=state, c=c):
                    answered = ask(*way(state), hand(state, c), where())
                    self.assertEqual(answered[-2:], [-1, state])

    def test_the_edges_of_c_that_are_allowed(self):
        self.assertEqual(ask(*way(TEXT), hand(TEXT, 255)), [TEXT, TEXT])
        self.assertEqual(ask(hand(START, END)), [OVER])
        self.assertEqual(ask(hand(START, 0)), [OVER])

    def test_reading_goes_on_after_a_refusal(self):
        calls = [run(b'"\\x4'), hand(LOW, 256), hand(TEXT, 65), hand(LOW, ord("1")), hand(TEXT, ord('"')), where()]
        self.assertEqual(ask(*calls), [LOW, -1, -1, TEXT, START, START])


class Over(unittest.TestCase):
    def test_over_after_the_end(self):
        for c in (END, 0, 32, ord("a"), ord(","), 255):
            with self.subTest(c=c):
                self.assertEqual(ask(hand(START, END), hand(OVER, c), where()), [OVER, -1, OVER])

    def test_over_after_something_wrong(self):
        for c in (END, 0, 32, ord("a"), ord(","), 255):
            with self.subTest(c=c):
                self.assertEqual(ask(hand(START, ord("!")), hand(OVER, c), where()), [OVER, -1, OVER])

    def test_start_does_not_come_back(self):
        self.assertEqual(ask(hand(START, END), hand(START, 32), where()), [OVER, -1, OVER])


class SixtyFourTokensWait(unittest.TestCase):
    def check(self, before, state, c, after):
        """c is handed to the state that the text before it leads to."""
        answered = ask(run(before), hand(state, c), where())
        there = state if after == -1 else after
        self.assertEqual(answered, [state, after, there])

    def test_a_mark(self):
        self.check(b"," * 63, START, ord(","), START)
        self.check(b"," * 64, START, ord(","), -1)

    def test_each_mark(self):
        for c in b"{}[]:,=":
            with self.subTest(c=c):
                self.check(b"{" * 64, START, c, -1)

    def test_the_byte_behind_a_word_or_a_number(self):
        for token, state in ((b"w", WORD), (b"0", 3), (b"7", WHOLE), (b"0.5", 6), (b"1e5", 9)):
            with self.subTest(token=token):
                self.check(b"," * 63 + token, state, 32, START)
                self.check(b"," * 64 + token, state, 32, -1)

    def test_a_wrong_byte_behind_a_word_or_a_number(self):
        for token, state in ((b"w", WORD), (b"0", 3), (b"7", WHOLE), (b"0.5", 6), (b"1e5", 9)):
            with self.subTest(token=token):
                self.check(b"," * 63 + token, state, ord("!"), OVER)
                self.check(b"," * 64 + token, state, ord("!"), -1)

    def test_a_mark_behind_a_word_or_a_number_is_a_token_more(self):
        for token, state in ((b"w", WORD), (b"0", 3), (b"7", WHOLE), (b"0.5", 6), (b"1e5", 9)):
            with self.subTest(token=token):
                self.check(b"," * 62 + token, state, ord("="), START)
                self.check(b"," * 63 + token, state, ord("="), -1)
                self.check(b"," * 64 + token, state, ord("="), -1)

    def test_the_refused_mark_leaves_the_word_unfinished(self):
        calls = [run(b"," * 63 + b"w"), hand(WORD, ord("=")), hand(WORD, ord("x")), hand(WORD, 32), where()]
        self.assertEqual(ask(*calls), [WORD, -1, WORD, START, START])

    def test_the_end(self):
        self.check(b"," * 63 + b"w", WORD, END, OVER)
        self.check(b"," * 64 + b"w", WORD, END, -1)
        self.check(b"," * 64 + b"7", WHOLE, END, -1)
        self.check(b"," * 64, START, END, OVER)
        self.check(b"," * 64 + b"#", 14, END, OVER)

    def test_a_texts_closing_quote(self):
        self.check(b"," * 63 + b'"a', TEXT, ord('"'), START)
        self.check(b"," * 64 + b'"a', TEXT, ord('"'), -1)
        self.check(b"," * 64 + b'"', TEXT, ord('"'), -1)

    def test_what_finishes_nothing_is_not_refused(self):
        self.check(b"," * 64, START, 32, START)
        self.check(b"," * 64, START, ord("a"), WORD)
        self.check(b"," * 64, START, ord('"'), TEXT)
        self.check(b"," * 64, START, ord("!"), OVER)
        self.check(b"," * 64 + b"w", WORD, ord("x"), WORD)
        self.check(b"," * 64 + b"7", WHOLE, ord("x"), OVER)
        self.check(b"," * 64 + b'"', TEXT, END, OVER)

    def test_each_sort_of_token_counts(self):
        before = b'a 0 1 0.5 1e5 "t" "" , ' * 7
        self.check(before + b"," * 7, START, ord(","), START)
        self.check(before + b"," * 8, START, ord(","), -1)


class TwoHundredAndFiftyFiveBytes(unittest.TestCase):
    def check(self, before, state, c, after):
        self.assertEqual(ask(run(before), hand(state, c), where()), [state, after, after])

    def test_a_word(self):
        self.check(b"w" * 254, WORD, ord("w"), WORD)
        self.check(b"w" * 255, WORD, ord("w"), OVER)
        self.check(b"w" * 255, WORD, ord("0"), OVER)
        self.check(b"w" * 255, WORD, 32, START)
        self.check(b"w" * 255, WORD, ord("="), START)

    def test_a_number(self):
        self.check(b"1" * 254, WHOLE, ord("2"), WHOLE)
        self.check(b"1" * 255, WHOLE, ord("2"), OVER)
        self.check(b"1" * 255, WHOLE, ord("."), OVER)
        self.check(b"1" * 255, WHOLE, ord("e"), OVER)
        self.check(b"1" * 255, WHOLE, 32, START)
        self.check(b"-" + b"1" * 254, WHOLE, ord("2"), OVER)
        self.check(b"0." + b"5" * 252, 6, ord("5"), 6)
        self.check(b"0." + b"5" * 253, 6, ord("5"), OVER)
        self.check(b"0." + b"5" * 253, 6, ord("e"), OVER)
        self.check(b"1" * 254 + b"e", 7, ord("+"), OVER)
        self.check(b"1" * 253 + b"e+", 8, ord("5"), OVER)
        self.check(b"1e" + b"5" * 253, 9, ord("5"), OVER)
        self.check(b"1" * 254 + b".", 5, ord("5"), OVER)

    def test_a_text(self):
        # The quote that begins a text is none of its bytes.
        self.check(b'"' + b"t" * 254, TEXT, ord("t"), TEXT)
        self.check(b'"' + b"t" * 255, TEXT, ord("t"), OVER)
        self.check(b'"' + b"t" * 255, TEXT, ord('"'), START)

    def test_a_text_by_an_escape(self):
        for c in b'nt\\"':
            with self.subTest(c=c):
                self.check(b'"' + b"t" * 254 + b"\\", 11, c, TEXT)
                self.check(b'"' + b"t" * 255 + b"\\", 11, c, OVER)
        self.check(b'"' + b"t" * 255, TEXT, ord("\\"), 11)
        self.check(b'"' + b"t" * 255 + b"\\", 11, ord("x"), 12)
        self.check(b'"' + b"t" * 255 + b"\\x", 12, ord("4"), LOW)
        self.check(b'"' + b"t" * 255 + b"\\x4", LOW, ord("1"), OVER)
        self.check(b'"' + b"t" * 254 + b"\\x4", LOW, ord("1"), TEXT)

    def test_an_escape_counts_as_one_byte(self):
        self.check(b'"' + b"\\x41" * 254, TEXT, ord("t"), TEXT)
        self.check(b'"' + b"\\x41" * 255, TEXT, ord("t"), OVER)
        self.check(b'"' + b"\\n" * 255, TEXT, ord("t"), OVER)

    def test_the_next_token_counts_anew(self):
        self.check(b"w" * 255 + b" " + b"w" * 254, WORD, ord("w"), WORD)
        self.check(b'"' + b"t" * 255 + b'"' + b"w" * 254, WORD, ord("w"), WORD)

    def test_a_comment_has_no_limit(self):
        self.check(b"#" + b"c" * 1000, 14, ord("c"), 14)


if __name__ == "__main__":
    unittest.main()
