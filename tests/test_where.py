"""Promise 4: where."""

import unittest

from lines import OVER, START, WAY, ask, hand, way, where
from statereader.tokens import answers


class Where(unittest.TestCase):
    def test_at_a_lines_beginning(self):
        self.assertEqual(answers([3]), [1, START])

    def test_in_each_state(self):
        for state in [*WAY, OVER]:
            with self.subTest(state=state):
                self.assertEqual(ask(*way(state), where())[-1], state)

    def test_asking_changes_nothing(self):
        for state in [*WAY, OVER]:
            with self.subTest(state=state):
                self.assertEqual(ask(*way(state), where(), where(), where())[-3:], [state] * 3)

    def test_after_each_hand(self):
        calls = []
        expected = []
        state = START
        for c, after in zip(b'a1 -0.5e+7,"\\x4f"#\n', (1, 1, 0, 2, 3, 5, 6, 7, 8, 9, 0, 10, 11, 12, 13, 10, 0, 14, 0)):
            calls += [hand(state, c), where()]
            expected += [after, after]
            state = after
        self.assertEqual(ask(*calls), expected)


if __name__ == "__main__":
    unittest.main()
