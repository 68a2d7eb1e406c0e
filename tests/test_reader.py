"""What the reader keeps, as far as no list of calls can show it."""

import unittest

from lines import END, OVER, START, WORD
from statereader.tokens import Reader


def read(cs):
    reader = Reader()
    reader.run(list(cs))
    return reader


def kept(reader):
    return (reader.state, reader.handed, list(reader.current), reader.high, list(reader.waiting), reader.fault_place)


class Kept(unittest.TestCase):
    def test_at_the_beginning(self):
        self.assertEqual(kept(Reader()), (START, 0, [], 0, [], -1))

    def test_a_refusal_changes_nothing(self):
        for text, state, c in (
            (b"," * 64, START, ord(",")), (b"," * 63 + b"w", WORD, ord("=")), (b"," * 64 + b"w", WORD, END),
            (b"ab", WORD, 256), (b"ab", START, 32), (b"ab!", OVER, 32),
        ):
            with self.subTest(text=text, c=c):
                reader = read(text)
                before = kept(reader)
                self.assertEqual(reader.hand(state, c), -1)
                self.assertEqual(kept(reader), before)

    def test_a_refused_take_and_asking_change_nothing(self):
        for text in (b"", b"ab", b"ab cd", b'"a" "\\x4', b"ab!", [*b"ab", END]):
            with self.subTest(text=text):
                reader = read(text)
                before = kept(reader)
                self.assertEqual([reader.take(-1), reader.take(256)], [[-2], [-2]])
                self.assertIn(reader.take(0), ([-1], [-3]))
                reader.kind()
                reader.fault()
                reader.where()
                self.assertEqual(kept(reader), before)


class Place(unittest.TestCase):
    def test_its_rest_by_2147483648(self):
        # A list of calls is too short for so many bytes, so the count is set here.
        for handed, place in (
            (2147483646, 2147483646), (2147483647, 2147483647), (2147483648, 0), (2147483653, 5),
            (4294967295, 2147483647), (4294967296, 0),
        ):
            with self.subTest(handed=handed):
                reader = Reader()
                reader.handed = handed
                self.assertEqual(reader.fault(), -1)
                reader.hand(START, ord("!"))
                self.assertEqual(reader.fault(), place)


if __name__ == "__main__":
    unittest.main()
