"""Promise 1, a line's beginning, and what the interface says of a list of calls."""

import unittest

from lines import END, LOW, OVER, START, TEXT, WORD, ZERO, ask, fault, hand, kind, rows, run, take, where
from statereader.tokens import UnknownCall, answers

BEGINNING = [where(), kind(), take(255), fault()]


def line(*calls):
    return [number for call in calls for number in call]


def mixed():
    """200 calls of all six, each with what it answers: nine times twenty, then twenty with something wrong."""
    told = [
        (where(), [START]), (kind(), [0]), (take(255), [-1]), (fault(), [-1]),
        (run(b'key="\\x4'), [LOW]), (kind(), [1]), (hand(TEXT, ord("b")), [-1]), (hand(LOW, ord("b")), [TEXT]),
        (take(2), [-3]), (take(3), [3, *b"key"]), (take(256), [-2]), (kind(), [5]),
        (run(b'\xff"# c\n-1.5e+3,'), [START]), (take(1), [1, 61]), (kind(), [4]), (take(2), [2, 75, 255]),
        (take(255), [7, *b"-1.5e+3"]), (run([9, 10, 256, 33]), [-1]), (take(1), [1, 44]), (hand(START, 13), [START]),
    ] * 9
    # Each time 8 bytes, 1, 14, 2 and 1 were handed over.
    handed = 9 * 26
    told += [
        (hand(START, ord("0")), [ZERO]), (kind(), [0]), (run(b" w"), [WORD]), (kind(), [2]), (fault(), [-1]),
        (hand(WORD, 256), [-1]), (hand(WORD, 33), [OVER]), (fault(), [handed + 3]), (where(), [OVER]), (kind(), [2]),
        (hand(OVER, 32), [-1]), (run(b" "), [-1]), (take(0), [-3]), (take(1), [1, 48]), (kind(), [1]),
        (take(1), [1, 119]), (kind(), [0]), (take(1), [-1]), (take(-1), [-2]), (fault(), [handed + 3]),
    ]
    return told


class Beginning(unittest.TestCase):
    def test_each_call_as_the_first(self):
        self.assertEqual(answers(where()), [1, 0])
        self.assertEqual(answers(kind()), [1, 0])
        self.assertEqual(answers(take(0)), [1, -1])
        self.assertEqual(answers(take(255)), [1, -1])
        self.assertEqual(answers(fault()), [1, -1])
        self.assertEqual(answers(hand(START, 97)), [1, WORD])
        self.assertEqual(answers(run(b'a="')), [1, TEXT])

    def test_all_of_them(self):
        self.assertEqual(ask(*BEGINNING), [START, 0, -1, -1])

    def test_nothing_has_been_handed_over(self):
        self.assertEqual(ask(*BEGINNING, hand(START, 33), fault())[-2:], [OVER, 0])

    def test_each_list_begins_so(self):
        for before in (
            [run(b"," * 64 + b"a")], [run(b"a b!")], [run([END])], [run(b'"\\x4')], [run([*b"a = 1", END]), take(1)],
            [run(b"w" * 256)], [hand(START, 33), fault()], [run([256])], [take(-1)],
        ):
            with self.subTest(before=before):
                rows(*before)
                self.assertEqual(ask(*BEGINNING, hand(START, 33), fault()), [START, 0, -1, -1, OVER, 0])
                rows(*before)
                self.assertEqual(rows(run(b"," * 64), run(b" b "), run(b" ")), [[START], [-1], [-1]])


class Lists(unittest.TestCase):
    def test_each_answer_has_its_count_before_it(self):
        self.assertEqual(answers([1, 0, 97, 2, 2, 98, 32, 3, 1, 5, 0]), [1, 1, 1, 0, 1, 0, 1, -1])
        self.assertEqual(
            answers([4, 2, 4, 97, 98, 61, 33, 4, 5, 1, 5, 2, 4, 6, 3, 5, 1, 5, 1]),
            [1, 0, 1, 15, 1, 1, 1, -3, 3, 2, 97, 98, 1, 5, 1, 3, 1, 15, 2, 1, 61, 1, -1],
        )

    def test_a_calls_number_among_the_numbers_of_another(self):
        self.assertEqual(ask(*[take(most) for most in range(1, 7)]), [-1] * 6)
        self.assertEqual(answers([5, 5, 5, 6, 5, 3, 6, 4]), [1, -1, 1, -1, 1, -1, 1, -1, 1, 0])
        self.assertEqual(answers([1, 5, 5, 2, 2, 4, 6, 1, 15, 4, 6]), [1, -1, 1, -1, 1, -1, 1, 0])

    def test_200_calls_of_one_sort(self):
        self.assertEqual(ask(*[where()] * 200), [START] * 200)
        self.assertEqual(ask(*[hand(START, 32)] * 200), [START] * 200)
        self.assertEqual(ask(*[run(b"# a\n"), hand(START, 10), where(), hand(WORD, 10)] * 50), [0, 0, 0, -1] * 50)
        self.assertEqual(ask(*[hand(START, ord(","))] * 200), [START] * 64 + [-1] * 136)
        self.assertEqual(rows(run(b"=" * 64), *[take(1)] * 199), [[START]] + [[1, 61]] * 64 + [[-1]] * 135)
        self.assertEqual(ask(run(b" !"), *[fault()] * 199), [OVER] + [1] * 199)
        self.assertEqual(ask(run(b"=,"), *[kind()] * 199), [START] + [5] * 199)

    def test_200_calls_of_all_six(self):
        told = mixed()
        self.assertEqual(len(told), 200)
        self.assertEqual({call[0] for call, answer in told}, {1, 2, 3, 4, 5, 6})
        found = rows(*[call for call, answer in told])
        for at, (call, answer) in enumerate(told):
            with self.subTest(at=at, call=call):
                self.assertEqual(found[at], answer)

    def test_the_same_list_twice_gives_the_same(self):
        for calls in (
            [run(b"a=1"), where()], [run([END]), where()], [run(b"," * 64), hand(START, ord(","))],
            [run(b'"ab" c!'), kind(), take(255), take(255), fault()], [call for call, answer in mixed()],
        ):
            with self.subTest(calls=calls):
                numbers = line(*calls)
                first = answers(numbers)
                kept = list(first)
                self.assertEqual(answers(numbers), kept)
                # What was given back is the caller's own.
                first.clear()
                self.assertEqual(answers(numbers), kept)

    def test_the_list_is_as_it_was(self):
        for calls in (
            [hand(START, 97), run([98, 256, 32]), where(), run(b'"\\x41"'), hand(9, -2147483648)],
            [run(b"ab = "), take(2), take(-2147483648), kind(), fault(), take(1), run(b"!"), fault()],
            [call for call, answer in mixed()],
        ):
            numbers = line(*calls)
            before = list(numbers)
            answers(numbers)
            self.assertEqual(numbers, before)

    def test_the_list_is_only_read(self):
        class Watched(list):
            def refuse(self, *given):
                raise AssertionError("the list was changed")

            append = extend = insert = pop = remove = reverse = clear = sort = refuse
            __setitem__ = __delitem__ = __iadd__ = __imul__ = refuse

        numbers = line(*[call for call, answer in mixed()])
        self.assertEqual(answers(Watched(numbers)), answers(numbers))

    def test_whole_numbers_in_a_list(self):
        answered = answers(line(*[call for call, answer in mixed()]))
        self.assertIs(type(answered), list)
        self.assertEqual({type(number) for number in answered}, {int})

    def test_30000_numbers(self):
        content = b'"' + b"\\xff" * 250 + b'"' + b"w" * 255 + b" #"
        calls = [run(content.ljust(1999, b"#") + b"\n"), take(255), take(255)] * 14 + [run(b" " * 1914)]
        self.assertEqual(len(line(*calls)), 30000)
        self.assertEqual(rows(*calls), [[START], [250] + [255] * 250, [255] + [119] * 255] * 14 + [[START]])

    def test_a_number_that_begins_no_call(self):
        for number in (0, -1, 7, 8, 2147483647):
            with self.subTest(number=number):
                with self.assertRaises(UnknownCall):
                    answers([3, number])


if __name__ == "__main__":
    unittest.main()
