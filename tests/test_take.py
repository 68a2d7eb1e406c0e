"""Promise 6: take, what it gives, what it refuses, and the room that it makes."""

import unittest

from lines import END, OVER, START, TEXT, WAY, WORD, ask, fault, hand, kind, rows, run, take, tokens, way, where
from statereader.tokens import answers

OUT_OF_RANGE = (-1, 256, -2, 257, -255, -256, -2147483648, 2147483647)


def taken(text, most=255):
    """What a take answers behind a text."""
    return rows(run(text), take(most))[1]


class EachKind(unittest.TestCase):
    def check(self, kind_expected, text, content):
        self.assertEqual(rows(run(text), kind(), take(255))[1:], [[kind_expected], [len(content), *content]])

    def test_a_word(self):
        self.check(1, b"ab_9 ", b"ab_9")
        self.check(1, b"_ ", b"_")
        self.check(1, b"eE0=", b"eE0")
        self.check(1, [*b"Zz", END], b"Zz")

    def test_a_whole_number(self):
        for number in (b"0", b"-0", b"7", b"17", b"-205", b"1234567890", b"99999999999999999999"):
            self.check(2, number + b" ", number)
            self.check(2, [*number, END], number)

    def test_another_number(self):
        for number in (b"0.50", b"-0.0", b"1e5", b"-2.5E+07", b"0e-0", b"1234567890.0123456789e0123456789"):
            self.check(3, number + b",", number)
            self.check(3, [*number, END], number)

    def test_a_text(self):
        self.check(4, b'"a b"', b"a b")
        self.check(4, b'"#{}[]:,=-0.5e+7"', b"#{}[]:,=-0.5e+7")

    def test_a_mark(self):
        for mark in b"{}[]:,=":
            self.check(5, [mark], [mark])

    def test_how_it_is_written(self):
        self.assertEqual(answers([2, 3, 97, 98, 32, 5, 255]), [1, 0, 3, 2, 97, 98])
        self.assertEqual(answers([2, 2, 34, 34, 5, 255]), [1, 0, 1, 0])
        self.assertEqual(answers([5, 255, 5, 256, 5, 0, 3]), [1, -1, 1, -2, 1, -1, 1, 0])
        self.assertEqual(answers([1, 0, 61, 5, 0, 5, 1, 3]), [1, 0, 1, -3, 2, 1, 61, 1, 0])


class Texts(unittest.TestCase):
    def test_without_bytes(self):
        for most in (0, 1, 255):
            with self.subTest(most=most):
                self.assertEqual(rows(run(b'""'), take(most), kind(), take(most)), [[START], [0], [0], [-1]])

    def test_each_escape(self):
        for text, c in ((b"\\n", 10), (b"\\t", 9), (b"\\\\", 92), (b'\\"', 34)):
            with self.subTest(text=text):
                self.assertEqual(taken(b'"' + text + b'"'), [1, c])

    def test_hexadecimal_digits_of_each_sort(self):
        for digits, c in (
            (b"00", 0), (b"09", 9), (b"90", 144), (b"4f", 79), (b"f4", 244), (b"F0", 240), (b"0F", 15), (b"af", 175),
            (b"FA", 250), (b"aB", 171), (b"Cd", 205), (b"eE", 238), (b"ff", 255), (b"22", 34), (b"5c", 92),
        ):
            with self.subTest(digits=digits):
                self.assertEqual(taken(b'"\\x' + digits + b'"'), [1, c])

    def test_every_byte_by_its_two_digits(self):
        for c in range(256):
            with self.subTest(c=c):
                self.assertEqual(taken(b'"\\x%02x\\x%02X"' % (c, c)), [2, c, c])

    def test_escapes_among_other_bytes(self):
        self.assertEqual(tokens(run(b'"a\\nb\\t\\\\\\"c\\x41\\x42d"')), [(4, b'a\nb\t\\"cABd')])
        self.assertEqual(tokens(run(b'"\\x4142\\\\n"')), [(4, b"A42\\n")])

    def test_every_byte_that_a_text_may_hold_by_itself(self):
        content = bytes(c for c in range(32, 256) if c not in b'"\\')
        self.assertEqual(taken(b'"' + content + b'"'), [222, *content])

    def test_bytes_above_127(self):
        self.assertEqual(taken(b'"\x7f\x80\xc3\xa4\xff"'), [5, 127, 128, 195, 164, 255])

    def test_escapes_in_several_runs_and_hands(self):
        calls = [run(b'"\\x'), hand(12, ord("e")), kind(), take(255), hand(13, ord("9")), run(b'"'), take(255)]
        self.assertEqual(rows(*calls), [[12], [13], [0], [-1], [TEXT], [START], [1, 0xE9]])


class TwoHundredAndFiftyFiveBytes(unittest.TestCase):
    def test_of_each_kind(self):
        for text, content in (
            (b"w" * 255 + b" ", b"w" * 255), (b"1" * 255 + b" ", b"1" * 255),
            (b"-0." + b"5" * 252 + b" ", b"-0." + b"5" * 252),
            (b'"' + b"\xff" * 255 + b'"', b"\xff" * 255), (b'"' + b"\\x0a" * 255 + b'"', b"\n" * 255),
        ):
            with self.subTest(text=text[:4]):
                self.assertEqual(taken(text), [255, *content])

    def test_254_are_too_few_for_it(self):
        calls = [run(b"w" * 255 + b" "), take(254), kind(), take(255), kind()]
        self.assertEqual(rows(*calls), [[START], [-3], [1], [255] + [119] * 255, [0]])

    def test_one_byte_more_leaves_no_token(self):
        self.assertEqual(rows(run(b"w" * 256), kind(), take(255)), [[OVER], [0], [-1]])


class Order(unittest.TestCase):
    def test_as_they_were_finished(self):
        self.assertEqual(
            tokens(run(b'a=1-2"t"w#c\n{0.5}')),
            [(1, b"a"), (5, b"="), (2, b"1"), (2, b"-2"), (4, b"t"), (1, b"w"), (5, b"{"), (3, b"0.5"), (5, b"}")],
        )

    def test_the_end_finishes_the_last(self):
        self.assertEqual(tokens(run([*b"a 1e5", END])), [(1, b"a"), (3, b"1e5")])

    def test_sixty_four(self):
        words = [b"w%d" % number for number in range(64)]
        self.assertEqual(tokens(run(b" ".join(words) + b" ")), [(1, word) for word in words])

    def test_takes_between_runs(self):
        calls = [run(b"a b"), take(255), run(b"c 1"), take(255), run([END]), take(255), take(255)]
        self.assertEqual(rows(*calls), [[WORD], [1, 97], [4], [2, 98, 99], [OVER], [1, 49], [-1]])

    def test_what_was_taken_waits_no_more(self):
        calls = [run(b"a "), take(255), kind(), take(255), take(0), run(b"b "), kind(), take(255), take(255)]
        self.assertEqual(rows(*calls), [[START], [1, 97], [0], [-1], [-1], [START], [1], [1, 98], [-1]])

    def test_two_that_are_alike_are_two(self):
        self.assertEqual(tokens(run(b"a a ==")), [(1, b"a"), (1, b"a"), (5, b"="), (5, b"=")])

    def test_a_take_leaves_what_is_being_read(self):
        for state in WAY:
            with self.subTest(state=state):
                calls = [run(b"=" + WAY[state]), take(255), where(), take(255), where()]
                self.assertEqual(rows(*calls), [[state], [1, 61], [state], [-1], [state]])
        calls = [run(b"= ab"), take(1), hand(WORD, ord("c")), hand(WORD, 32), take(3)]
        self.assertEqual(rows(*calls), [[WORD], [1, 61], [WORD], [START], [3, 97, 98, 99]])


class Refused(unittest.TestCase):
    def test_most_out_of_range_where_none_waits(self):
        for most in OUT_OF_RANGE:
            with self.subTest(most=most):
                self.assertEqual(rows(take(most), kind(), where(), fault()), [[-2], [0], [START], [-1]])

    def test_most_out_of_range_where_a_token_waits(self):
        for text in (b"ab ", b'""', b"w" * 255 + b" "):
            for most in OUT_OF_RANGE:
                with self.subTest(text=text, most=most):
                    calls = [run(text), take(most), kind()]
                    self.assertEqual(rows(*calls)[1], [-2])
                    self.assertEqual(tokens(*calls), tokens(run(text)))

    def test_none_waits(self):
        for most in (0, 1, 254, 255):
            with self.subTest(most=most):
                self.assertEqual(rows(take(most), where(), kind(), fault()), [[-1], [START], [0], [-1]])
                for state in WAY:
                    self.assertEqual(rows(*way(state), take(most), where())[-2:], [[-1], [state]])

    def test_most_is_less_than_the_bytes(self):
        for text, most in (
            (b"=", 0), (b"ab ", 0), (b"ab ", 1), (b'"\\x41"', 0), (b"12.5,", 3), (b"w" * 255 + b" ", 254),
        ):
            with self.subTest(text=text, most=most):
                calls = [run(text), take(most), take(most)]
                self.assertEqual(rows(*calls)[1:], [[-3], [-3]])
                self.assertEqual(tokens(*calls), tokens(run(text)))

    def test_most_as_great_as_the_bytes(self):
        self.assertEqual(taken(b"=", 1), [1, 61])
        self.assertEqual(taken(b"abc ", 3), [3, 97, 98, 99])
        self.assertEqual(taken(b'""', 0), [0])
        self.assertEqual(taken(b'"\\x41\\n"', 2), [2, 65, 10])

    def test_a_shorter_token_behind_is_not_taken_instead(self):
        calls = [run(b"abc = "), take(2), kind(), take(3), take(2), take(2)]
        self.assertEqual(rows(*calls), [[START], [-3], [1], [3, 97, 98, 99], [1, 61], [-1]])

    def test_nothing_is_changed(self):
        calls = [run(b"ab cd"), take(256), take(1), where(), hand(WORD, ord("e")), run(b"!"), fault(), take(2), take(3)]
        self.assertEqual(
            rows(*calls), [[WORD], [-2], [-3], [WORD], [WORD], [OVER], [6], [2, 97, 98], [3, 99, 100, 101]],
        )


class Room(unittest.TestCase):
    def test_the_same_mark_after_one_take(self):
        calls = [run(b"," * 64), hand(START, 61), take(255), hand(START, 61), hand(START, 61)]
        self.assertEqual(rows(*calls), [[START], [-1], [1, 44], [START], [-1]])
        self.assertEqual(tokens(*calls), [(5, b",")] * 63 + [(5, b"=")])

    def test_the_byte_behind_a_word(self):
        for c, after in ((32, START), (END, OVER), (ord("!"), OVER), (ord('"'), TEXT)):
            with self.subTest(c=c):
                calls = [run(b"," * 64 + b"w"), hand(WORD, c), take(1), hand(WORD, c)]
                self.assertEqual(rows(*calls), [[WORD], [-1], [1, 44], [after]])
                self.assertEqual(tokens(*calls), [(5, b",")] * 63 + [(1, b"w")])

    def test_a_mark_behind_a_word_needs_room_for_two(self):
        calls = [run(b"," * 64 + b"w"), hand(WORD, 61), take(1), hand(WORD, 61), take(1), hand(WORD, 61)]
        self.assertEqual(rows(*calls), [[WORD], [-1], [1, 44], [-1], [1, 44], [START]])
        self.assertEqual(tokens(*calls), [(5, b",")] * 62 + [(1, b"w"), (5, b"=")])

    def test_a_closing_quote(self):
        calls = [run(b"," * 64 + b'"a'), hand(TEXT, 34), take(1), hand(TEXT, 34)]
        self.assertEqual(rows(*calls), [[TEXT], [-1], [1, 44], [START]])
        self.assertEqual(tokens(*calls), [(5, b",")] * 63 + [(4, b"a")])

    def test_a_refused_take_makes_no_room(self):
        calls = [run(b"," * 64), take(0), take(-1), take(256), hand(START, 61)]
        self.assertEqual(rows(*calls), [[START], [-3], [-2], [-2], [-1]])

    def test_a_refused_byte_leaves_the_tokens(self):
        self.assertEqual(tokens(run(b"w " * 64 + b"w ,")), [(1, b"w")] * 64)
        calls = [run(b"w " * 63 + b"abc=")]
        self.assertEqual(rows(*calls), [[-1]])
        self.assertEqual(tokens(*calls, take(255), take(255), hand(WORD, 61))[-2:], [(1, b"abc"), (5, b"=")])

    def test_a_run_goes_on_after_takes(self):
        calls = [run(b"," * 60 + b"abcde====="), *[take(255)] * 2, run(b"====="), kind(), where()]
        self.assertEqual(ask(calls[0]), [-1])
        self.assertEqual(tokens(*calls), [(5, b",")] * 58 + [(1, b"abcde")] + [(5, b"=")] * 5)

    def test_more_than_64_in_all(self):
        calls = []
        for number in range(100):
            calls += [run(b"w%d " % number), take(255)]
        self.assertEqual(rows(*calls)[1::2], [[len(b"w%d" % number), *b"w%d" % number] for number in range(100)])


class AfterOver(unittest.TestCase):
    def test_finished_tokens_stay(self):
        for text in ([*b"a 1 ", END], [*b"a 1", END], b"a 1 !", b"a 1!", b"a 1 01", b'a 1 "\n', b"a 1 " + b"w" * 256):
            with self.subTest(text=text):
                self.assertEqual(ask(run(text), where()), [OVER, OVER])
                self.assertEqual(tokens(run(text)), [(1, b"a"), (2, b"1")])

    def test_takes_and_refusals_go_on(self):
        calls = [run(b"ab=!"), take(1), take(256), take(2), hand(OVER, 32), take(0), take(1), take(1), run(b" ")]
        self.assertEqual(rows(*calls), [[OVER], [-3], [-2], [2, 97, 98], [-1], [-3], [1, 61], [-1], [-1]])

    def test_room_does_not_bring_reading_back(self):
        calls = [run([*b"," * 64, END]), take(1), hand(OVER, 44), hand(START, 44), run(b","), where()]
        self.assertEqual(rows(*calls), [[OVER], [1, 44], [-1], [-1], [-1], [OVER]])


if __name__ == "__main__":
    unittest.main()
