"""Promise 5: kind, and with which kind each state finishes a token."""

import unittest

from lines import (
    COMMENT, END, ESCAPE, KINDS, OVER, START, TEXT, WAY, WORD, ask, fault, finishes, hand, kind, rows, run, take,
    tokens, way, where,
)

MARKS = b"{}[]:,="


class NoneWaits(unittest.TestCase):
    def test_at_a_lines_beginning(self):
        self.assertEqual(ask(kind()), [0])

    def test_while_a_token_is_being_read(self):
        for state in WAY:
            with self.subTest(state=state):
                self.assertEqual(ask(*way(state), kind())[-1], 0)

    def test_after_blanks_and_comments(self):
        self.assertEqual(ask(run(b" \t\r\n# a = 1\n"), kind()), [START, 0])

    def test_after_the_end(self):
        self.assertEqual(ask(run([END]), kind()), [OVER, 0])
        self.assertEqual(ask(run([*b"#", END]), kind()), [OVER, 0])

    def test_what_was_not_finished_when_something_was_wrong_does_not_wait(self):
        for text in (b"-a", b"01", b"1x", b"1.x", b"1.5x", b"1ex", b"1e+x", b"1e5x", b'"\n', b'"\\q', b'"\\xg'):
            with self.subTest(text=text):
                self.assertEqual(ask(run(text), kind()), [OVER, 0])
        self.assertEqual(ask(run([*b'"a', END]), kind()), [OVER, 0])


class EachKind(unittest.TestCase):
    NUMBERS = ((b"0", 2), (b"-0", 2), (b"7", 2), (b"-205", 2), (b"0.5", 3), (b"-1.25", 3), (b"1e5", 3), (b"0E+7", 3))

    def test_finished_by_a_blank(self):
        for blank in b" \t\n\r":
            for text, expected in ((b"w", 1), (b"_", 1), (b"a9_Z", 1), *self.NUMBERS):
                with self.subTest(text=text, blank=blank):
                    self.assertEqual(ask(run([*text, blank]), kind()), [START, expected])

    def test_finished_by_a_mark(self):
        for mark in MARKS:
            for text, expected in ((b"w", 1), *self.NUMBERS):
                with self.subTest(text=text, mark=mark):
                    self.assertEqual(tokens(run([*text, mark])), [(expected, text), (5, bytes([mark]))])

    def test_finished_by_the_end(self):
        for text, expected in ((b"w", 1), *self.NUMBERS):
            with self.subTest(text=text):
                self.assertEqual(ask(run([*text, END]), kind()), [OVER, expected])

    def test_finished_by_what_begins_another(self):
        for text, expected in ((b"w", 1), *self.NUMBERS):
            for c in b'"#-':
                with self.subTest(text=text, c=c):
                    self.assertEqual(ask(run([*text, c]), kind())[1], expected)

    def test_a_text_by_its_closing_quote(self):
        for text in (b'""', b'"a"', b'"1"', b'"\\x41"', b'"="'):
            with self.subTest(text=text):
                self.assertEqual(ask(run(text[:-1]), kind(), hand(TEXT, ord('"')), kind()), [TEXT, 0, START, 4])

    def test_a_quote_behind_a_backslash_closes_nothing(self):
        self.assertEqual(ask(run(b'"\\'), hand(ESCAPE, ord('"')), kind()), [ESCAPE, TEXT, 0])

    def test_a_mark_by_itself(self):
        for mark in MARKS:
            with self.subTest(mark=mark):
                self.assertEqual(ask(hand(START, mark), kind()), [START, 5])

    def test_every_byte_and_the_end_in_every_state(self):
        for state in WAY:
            for c in range(-1, 256):
                expected = []
                if finishes(state, c):
                    expected.append((KINDS[state], WAY[state]))
                if state == TEXT and c == ord('"'):
                    expected.append((4, b""))
                if c != END and c in MARKS and (state == START or finishes(state, c)):
                    expected.append((5, bytes([c])))
                with self.subTest(state=state, c=c):
                    self.assertEqual(tokens(*way(state), hand(state, c)), expected)


class TheLongestWaiting(unittest.TestCase):
    def test_the_first_of_several(self):
        for text, expected in ((b"w 1 ", 1), (b"1 w ", 2), (b"0.5=", 3), (b'"a" 1 ', 4), (b"=w ", 5)):
            with self.subTest(text=text):
                self.assertEqual(ask(run(text), kind()), [START, expected])

    def test_it_stays_the_first_while_others_come(self):
        calls = [run(b"7 "), kind(), run(b"w "), kind(), run(b'"t"'), kind(), run(b"{"), kind(), run([END]), kind()]
        self.assertEqual(ask(*calls), [START, 2, START, 2, START, 2, START, 2, OVER, 2])

    def test_the_next_one_after_a_take(self):
        calls = [run(b'{0.5 "" 9 w ')] + [kind(), take(255)] * 6
        self.assertEqual(
            rows(*calls)[1:],
            [[5], [1, 123], [3], [3, 48, 46, 53], [4], [0], [2], [1, 57], [1], [1, 119], [0], [-1]],
        )

    def test_asking_does_not_take(self):
        calls = [run(b"w "), kind(), kind(), kind(), take(1), kind()]
        self.assertEqual(rows(*calls), [[START], [1], [1], [1], [1, 119], [0]])

    def test_asking_changes_nothing_while_reading(self):
        calls = [run(b"= w"), kind(), hand(WORD, ord("x")), kind(), where(), hand(WORD, 32), fault()]
        self.assertEqual(ask(*calls), [WORD, 5, WORD, 5, WORD, START, -1])

    def test_a_comment_is_no_token(self):
        self.assertEqual(ask(run(b"#w"), kind(), hand(COMMENT, 10), kind()), [COMMENT, 0, START, 0])


if __name__ == "__main__":
    unittest.main()
