"""What the reader keeps while it is handed bytes: the tokens that wait, and the place of what was wrong."""

import unittest

from lines import END, OVER, START, WORD
from statereader.tokens import Reader


def read(cs):
    reader = Reader()
    reader.run(list(cs))
    return reader


def kept(reader):
    return (reader.state, reader.handed, list(reader.current), list(reader.waiting), reader.fault_place)


def tokens(text):
    return [(kind, bytes(content)) for kind, content in read(text).waiting]


class Tokens(unittest.TestCase):
    def test_at_the_beginning(self):
        self.assertEqual(kept(Reader()), (START, 0, [], [], -1))

    def test_each_kind(self):
        self.assertEqual(tokens(b"ab_9 "), [(1, b"ab_9")])
        self.assertEqual(tokens(b"0 -0 17 -205 "), [(2, b"0"), (2, b"-0"), (2, b"17"), (2, b"-205")])
        self.assertEqual(tokens(b"0.50 1e5 -2.5E+07 0e-0 "), [(3, b"0.50"), (3, b"1e5"), (3, b"-2.5E+07"), (3, b"0e-0")])
        self.assertEqual(tokens(b'"a b" ""'), [(4, b"a b"), (4, b"")])
        self.assertEqual(tokens(b"{}[]:,="), [(5, bytes([c])) for c in b"{}[]:,="])

    def test_escapes(self):
        self.assertEqual(tokens(b'"\\n\\t\\\\\\"\\x4f\\xF0\\xfa\\x00"'), [(4, b'\n\t\\"\x4f\xf0\xfa\x00')])

    def test_every_byte_by_its_two_digits(self):
        for c in range(256):
            with self.subTest(c=c):
                self.assertEqual(tokens(b'"\\x%02x\\x%02X"' % (c, c)), [(4, bytes([c, c]))])

    def test_bytes_above_127_in_a_text(self):
        self.assertEqual(tokens(b'"\x7f\x80\xff"'), [(4, b"\x7f\x80\xff")])

    def test_what_stands_behind_a_token_without_a_blank(self):
        self.assertEqual(
            tokens(b'a=1-2"t"w#c\n{0.5}'),
            [(1, b"a"), (5, b"="), (2, b"1"), (2, b"-2"), (4, b"t"), (1, b"w"), (5, b"{"), (3, b"0.5"), (5, b"}")],
        )

    def test_the_end_finishes(self):
        self.assertEqual(tokens([*b"a", END]), [(1, b"a")])
        self.assertEqual(tokens([*b"1e5", END]), [(3, b"1e5")])

    def test_255_bytes(self):
        self.assertEqual(tokens(b"w" * 255 + b" "), [(1, b"w" * 255)])
        self.assertEqual(tokens(b"w" * 256 + b" "), [])

    def test_a_refusal_changes_nothing(self):
        for text, state, c in (
            (b"," * 64, START, ord(",")), (b"," * 63 + b"w", WORD, ord("=")), (b"," * 64 + b"w", WORD, END),
            (b"ab", WORD, 256), (b"ab", START, 32), (b"ab!", OVER, 32),
        ):
            with self.subTest(text=text, c=c):
                reader = read(text)
                before = kept(reader)
                self.assertEqual(reader.hand(state, c), -1)
                self.assertEqual(kept(reader), before)


class Wrong(unittest.TestCase):
    def test_its_place(self):
        for text, place in (
            (b"!", 0), (b"ab !", 3), (b"ab!", 2), (b"-a", 1), (b"01", 1), (b"1.e", 2), (b'"\n', 1), (b'"\\q', 2),
            (b'"\\xg', 3), (b'"\\x4g', 4), (b"w" * 256, 255), ([*b'"a', END], 2), ([*b"-", END], 1),
        ):
            with self.subTest(text=text):
                reader = read(text)
                self.assertEqual((reader.state, reader.fault_place), (OVER, place))

    def test_the_end_by_itself_is_not_wrong(self):
        for text in (b"", b"a", b"0", b"12", b"0.5", b"1e5", b"#", b'""', b"="):
            with self.subTest(text=text):
                reader = read([*text, END])
                self.assertEqual((reader.state, reader.fault_place), (OVER, -1))

    def test_finished_tokens_stay(self):
        self.assertEqual(tokens(b"a=b!"), [(1, b"a"), (5, b"="), (1, b"b")])
        self.assertEqual(tokens(b"a 1x"), [(1, b"a")])


if __name__ == "__main__":
    unittest.main()
