"""Promise 7: fault, the place where something was wrong."""

import unittest

from lines import (
    END, LETTERS, OVER, START, TEXT, WAY, WORD, ask, fault, hand, is_wrong, kind, rows, run, take, tokens, way, where,
)

# Blanks, a comment and tokens of each kind; all of it counts as bytes that were handed over.
AHEAD = b' \t# a!\n{k: "\\x41\\n" -2.5e+3, 7: 0, '


def place(cs):
    """The state after a run, and the place that is told behind it."""
    return ask(run(cs), fault())


class NothingWrong(unittest.TestCase):
    def test_at_a_lines_beginning(self):
        self.assertEqual(ask(fault()), [-1])

    def test_while_reading(self):
        for state in WAY:
            with self.subTest(state=state):
                self.assertEqual(ask(*way(state), fault(), where())[-2:], [-1, state])

    def test_after_the_end(self):
        for text in (b"", b" ", b"a", b"0", b"-0", b"12", b"0.5", b"1e5", b"#", b"# a\n", b'""', b"="):
            with self.subTest(text=text):
                self.assertEqual(place([*text, END]), [OVER, -1])

    def test_a_refusal_is_not_something_wrong(self):
        for calls in (
            [hand(START, 256)], [hand(START, -2)], [hand(WORD, 97)], [hand(OVER, 97)], [run([97, 256])], [run([-2])],
            [take(0)], [take(256)], [run(b"," * 65)], [run(b"a ="), take(0)], [run([END, 33])], [run([END, END])],
        ):
            with self.subTest(calls=calls):
                self.assertEqual(ask(*calls, fault())[-1], -1)


class Place(unittest.TestCase):
    def test_every_byte_and_the_end_in_every_state(self):
        for state in WAY:
            for c in range(-1, 256):
                expected = len(WAY[state]) if is_wrong(state, c) else -1
                with self.subTest(state=state, c=c):
                    self.assertEqual(ask(*way(state), hand(state, c), fault())[-1], expected)

    def test_behind_what_was_read_before(self):
        for state in WAY:
            for c in (END, 0, 10, ord("!"), ord("z"), ord("0"), 255):
                text = AHEAD + WAY[state]
                expected = len(text) if is_wrong(state, c) else -1
                with self.subTest(state=state, c=c):
                    self.assertEqual(ask(run(text), hand(state, c), fault())[-1], expected)

    def test_written_out(self):
        for text, expected in (
            (b"!", 0), (b"\x00", 0), (b"\xff", 0), (b".", 0), (b"+", 0), (b" !", 1), (b"\n\n\n!", 3), (b"ab !", 3),
            (b"#\n!", 2), (b"#abc\n  !", 7), (b'""!', 2), (b'"\\x41"!', 6), (b"===!", 3),
            (b"-a", 1), (b"--", 1), (b"- ", 1), (b"  -.", 3),
            (b"00", 1), (b"01", 1), (b"0x", 1), (b"-0_", 2),
            (b"12a", 2), (b"1_", 1), (b"a 12_", 4),
            (b"1. ", 2), (b"1.e", 2), (b"0..", 2),
            (b"0.5x", 3), (b"0.55_", 4),
            (b"1ee", 2), (b"1e ", 2), (b"1E.", 2),
            (b"1e+ ", 3), (b"1e-+", 3), (b"1e+e", 3),
            (b"1e5e", 3), (b"1e5_", 3),
            (b'"\n', 1), (b'"ab\x1f', 3), (b'"\x00', 1),
            (b'"\\q', 2), (b'"\\N', 2), (b'"\\X', 2), (b'"ab\\\n', 4),
            (b'"\\xg', 3), (b'"\\x"', 3), (b'"\\x4g', 4), (b'"\\x4"', 4),
        ):
            with self.subTest(text=text):
                self.assertEqual(place(text), [OVER, expected])

    def test_what_stands_behind_it_does_not_move_it(self):
        for text, expected in ((b"!!", 0), (b"a !b !", 2), (b"01 02", 1), (b'"\n"\n', 1)):
            with self.subTest(text=text):
                self.assertEqual(place(text), [-1, expected])

    def test_the_end_where_it_is_wrong(self):
        for text in (b"-", b"0.", b"1e", b"1e+", b'"', b'"abc', b'"\\', b'"\\x', b'"\\x4', b'a = "b', b"[1, -"):
            with self.subTest(text=text):
                self.assertEqual(place([*text, END]), [OVER, len(text)])

    def test_over_several_calls(self):
        calls = [run(b"ab "), hand(START, 61), run(b"\n# c"), hand(14, 10), fault(), hand(START, 33), fault()]
        self.assertEqual(ask(*calls), [START, START, 14, START, -1, OVER, 9])

    def test_what_was_refused_does_not_count(self):
        calls = [hand(START, 256), hand(WORD, 97), run([97, 98, 300, 99, 99]), run([-2]), hand(WORD, 33), fault()]
        self.assertEqual(ask(*calls), [-1, -1, -1, -1, OVER, 2])
        self.assertEqual(rows(run(b"," * 70), take(1), run(b"=="), hand(START, 33), fault())[-1], [65])

    def test_far_behind(self):
        self.assertEqual(ask(*[run(b" " * 2000)] * 14, run(b" !"), fault())[-1], 28001)
        self.assertEqual(ask(run(b"#" + b"\n" * 1998 + b"!"), fault())[-1], 1999)


class TooManyBytes(unittest.TestCase):
    def test_the_256th_byte(self):
        for text in (
            b"w" * 256, b"1" * 256, b"1" * 255 + b".", b"1" * 255 + b"e", b"0." + b"5" * 254, b"0." + b"5" * 253 + b"e",
            b"1" * 254 + b".5", b"1" * 254 + b"e+", b"1" * 254 + b"e5", b"1" * 253 + b"e-5", b"1e" + b"5" * 254,
            b'"' + b"t" * 256, b'"' + b"t" * 255 + b"\\n", b'"' + b"t" * 255 + b'\\"', b'"' + b"\\x41" * 256,
            b'"' + b"\\t" * 255 + b"t",
        ):
            with self.subTest(text=text[-6:]):
                self.assertEqual(place(text[:-1])[1], -1)
                self.assertEqual(place(text), [OVER, len(text) - 1])
                self.assertEqual(place(AHEAD + text), [OVER, len(AHEAD + text) - 1])

    def test_what_finishes_255_is_not_wrong(self):
        for text in (b"w" * 255 + b" ", b"1" * 255 + b"=", b'"' + b"t" * 255 + b'"'):
            with self.subTest(text=text[-3:]):
                self.assertEqual(place(text), [START, -1])
        self.assertEqual(place([*b"w" * 255, END]), [OVER, -1])


class BehindAToken(unittest.TestCase):
    def test_the_token_waits_and_the_place_is_told(self):
        for text, expected in (
            (b"ab", 1), (b"0", 2), (b"-0", 2), (b"12", 2), (b"0.5", 3), (b"1e5", 3), (b"-1.5e-5", 3),
        ):
            for c in (33, 0, 43, 92, 127, 128, 255):
                with self.subTest(text=text, c=c):
                    self.assertEqual(place([*text, c]), [OVER, len(text)])
                    self.assertEqual(tokens(run([*text, c])), [(expected, text)])

    def test_a_second_point(self):
        self.assertEqual(place(b"0.5."), [OVER, 3])
        self.assertEqual(tokens(run(b"0.5.")), [(3, b"0.5")])
        self.assertEqual(place(b"1e5."), [OVER, 3])
        self.assertEqual(tokens(run(b"1e5.")), [(3, b"1e5")])

    def test_a_letter_behind_a_number_leaves_no_token(self):
        for c in LETTERS:
            for text in (b"0", b"12", b"0.5", b"1e5"):
                if c not in b"eE" or text == b"1e5":
                    with self.subTest(text=text, c=c):
                        self.assertEqual(place([*text, c]), [OVER, len(text)])
                        self.assertEqual(tokens(run([*text, c])), [])


class Afterwards(unittest.TestCase):
    def test_the_place_stays(self):
        calls = [run(b"a=!"), fault(), hand(OVER, 33), run(b"!"), run([END]), take(1), take(1), take(1), fault()]
        self.assertEqual(rows(*calls), [[OVER], [2], [-1], [-1], [-1], [1, 97], [1, 61], [-1], [2]])

    def test_all_three_still_answer(self):
        calls = [run(b'a "b" "\n'), where(), kind(), take(0), take(1), kind(), take(1), kind(), take(1), fault()]
        self.assertEqual(rows(*calls), [[OVER], [15], [1], [-3], [1, 97], [4], [1, 98], [0], [-1], [7]])

    def test_after_the_end_too(self):
        calls = [run([*b"a 1", END]), hand(OVER, END), run([32]), kind(), take(1), kind(), take(1), kind(), fault()]
        self.assertEqual(rows(*calls), [[OVER], [-1], [-1], [1], [1, 97], [2], [1, 49], [0], [-1]])

    def test_asking_changes_nothing(self):
        calls = [run(b'"a'), fault(), hand(TEXT, ord("b")), fault(), hand(TEXT, 34), fault(), kind(), take(2)]
        self.assertEqual(rows(*calls), [[TEXT], [-1], [TEXT], [-1], [START], [-1], [4], [2, 97, 98]])


if __name__ == "__main__":
    unittest.main()
