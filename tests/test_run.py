"""Promise 3: run."""

import unittest

from lines import COMMENT, END, OVER, START, TEXT, WORD, WHOLE, ask, hand, run, where


class Run(unittest.TestCase):
    def test_the_answer_is_the_state_after_the_last_one(self):
        for text, after in (
            (b" ", START), (b"a", WORD), (b"a=1", WHOLE), (b"# x\n[", START), (b'k:"v\\n', TEXT), (b"# x", COMMENT),
            (b'{a: [1, -2.5e+3, "\\x41"]}\n', START), (b"a!", OVER), (b"01", OVER),
        ):
            with self.subTest(text=text):
                self.assertEqual(ask(run(text), where()), [after, after])

    def test_the_end_may_be_the_last_one(self):
        self.assertEqual(ask(run([*b"ab c", END]), where()), [OVER, OVER])

    def test_runs_go_on_from_where_the_last_one_stopped(self):
        self.assertEqual(ask(run(b'"a'), run(b"b\\"), hand(11, ord("n")), run(b'"x')), [TEXT, 11, TEXT, WORD])

    def test_those_before_a_refused_one_were_handed_over(self):
        self.assertEqual(ask(run([ord("a"), 256, 32]), where()), [-1, WORD])
        self.assertEqual(ask(run([ord("a"), ord("b"), -2, ord('"')]), where()), [-1, WORD])
        self.assertEqual(ask(run([ord('"'), 2147483647, ord('"')]), where()), [-1, TEXT])
        self.assertEqual(ask(run([ord("#"), -2147483648, 10]), where()), [-1, COMMENT])

    def test_the_first_one_may_be_refused(self):
        self.assertEqual(ask(run([256, ord("a")]), where()), [-1, START])

    def test_the_last_one_may_be_refused(self):
        self.assertEqual(ask(run([ord("a"), 256]), where()), [-1, WORD])

    def test_what_stands_behind_over_is_refused(self):
        self.assertEqual(ask(run([END, 32]), where()), [-1, OVER])
        self.assertEqual(ask(run(b"!a"), where()), [-1, OVER])
        self.assertEqual(ask(run([END]), run(b"a"), where()), [OVER, -1, OVER])

    def test_the_65th_token_is_refused(self):
        self.assertEqual(ask(run(b"," * 64), where()), [START, START])
        self.assertEqual(ask(run(b"," * 65 + b"a"), where()), [-1, START])
        self.assertEqual(ask(run(b"," * 63 + b"a=b"), where()), [-1, WORD])
        self.assertEqual(ask(run(b"a " * 64 + b"a ,"), where()), [-1, WORD])
        self.assertEqual(ask(run(b'""' * 64 + b'"" '), where()), [-1, TEXT])

    def test_tokens_of_several_runs_are_counted_together(self):
        self.assertEqual(ask(run(b"," * 40), run(b"," * 24), run(b","), where()), [START, START, -1, START])

    def test_a_run_of_2000(self):
        self.assertEqual(ask(run(b" " * 2000), where()), [START, START])
        self.assertEqual(ask(run(b"#" + b"c" * 1999), where()), [COMMENT, COMMENT])
        self.assertEqual(ask(run(b" " * 1999 + b"a"), where()), [WORD, WORD])
        self.assertEqual(ask(run([32] * 1999 + [256]), where()), [-1, START])

    def test_many_runs_of_2000(self):
        self.assertEqual(ask(*[run(b"\n" * 2000)] * 14, where()), [START] * 15)

    def test_a_number_of_a_run_is_no_call(self):
        self.assertEqual(ask(run([32, 9, 10, 13]), run([3]), where()), [START, OVER, OVER])
        self.assertEqual(ask(run([3, 3, 3]), where()), [-1, OVER])

    def test_a_run_of_none_stays(self):
        self.assertEqual(ask(run(b"a"), run([]), where()), [WORD, WORD, WORD])


if __name__ == "__main__":
    unittest.main()
