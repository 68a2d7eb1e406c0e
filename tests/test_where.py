"""Promises 1 and 4, and what the interface says of a list of calls."""

import unittest

from lines import END, OVER, START, WAY, WORD, ask, hand, run, way, where
from statereader.tokens import UnknownCall, answers


class Where(unittest.TestCase):
    def test_at_a_lines_beginning(self):
        self.assertEqual(answers([3]), [1, START])

    def test_in_each_state(self):
        for state in [*WAY, OVER]:
            with self.subTest(state=state):
                self.assertEqual(ask(*way(state), where())[-1], state)

    def test_asking_changes_nothing(self):
        for state in [*WAY, OVER]:
            with self.subTest(state=state):
                self.assertEqual(ask(*way(state), where(), where(), where())[-3:], [state] * 3)

    def test_after_each_hand(self):
        calls = []
        expected = []
        state = START
        for c, after in zip(b'a1 -0.5e+7,"\\x4f"#\n', (1, 1, 0, 2, 3, 5, 6, 7, 8, 9, 0, 10, 11, 12, 13, 10, 0, 14, 0)):
            calls += [hand(state, c), where()]
            expected += [after, after]
            state = after
        self.assertEqual(ask(*calls), expected)


class Lists(unittest.TestCase):
    def test_each_answer_has_its_count_before_it(self):
        self.assertEqual(answers([1, 0, 97, 2, 2, 98, 32, 3, 1, 5, 0]), [1, 1, 1, 0, 1, 0, 1, -1])

    def test_200_calls(self):
        self.assertEqual(ask(*[where()] * 200), [START] * 200)
        self.assertEqual(ask(*[hand(START, 32)] * 200), [START] * 200)
        self.assertEqual(ask(*[run(b"# a\n"), hand(START, 10), where(), hand(WORD, 10)] * 50), [0, 0, 0, -1] * 50)
        self.assertEqual(ask(*[hand(START, ord(","))] * 200), [START] * 64 + [-1] * 136)

    def test_the_same_list_twice_gives_the_same(self):
        for calls in ([run(b"a=1"), where()], [run([END]), where()], [run(b"," * 64), hand(START, ord(","))]):
            with self.subTest(calls=calls):
                line = [number for call in calls for number in call]
                first = answers(line)
                self.assertEqual(answers(line), first)
                first.append(7)
                self.assertEqual(answers(line), first[:-1])

    def test_each_line_begins_anew(self):
        answers(run(b"," * 64 + b"a"))
        self.assertEqual(answers([3]), [1, START])
        self.assertEqual(ask(run(b"," * 64)), [START])
        answers(run([END]))
        self.assertEqual(answers([3]), [1, START])

    def test_the_list_is_as_it_was(self):
        line = hand(START, 97) + run([98, 256, 32]) + where() + run(b'"\\x41"') + hand(9, -2147483648)
        before = list(line)
        answers(line)
        self.assertEqual(line, before)

    def test_whole_numbers_in_a_list(self):
        answered = answers(hand(START, 97) + hand(START, 97) + run(b" ") + where())
        self.assertIs(type(answered), list)
        self.assertEqual({type(number) for number in answered}, {int})

    def test_a_number_that_begins_no_call(self):
        for number in (0, -1, 7):
            with self.subTest(number=number):
                with self.assertRaises(UnknownCall):
                    answers([3, number])


if __name__ == "__main__":
    unittest.main()
