import unittest

from helper import ask, begins, ends, feed, last, said, secret


class Begins(unittest.TestCase):
    def test_answers_zero_alone(self):
        self.assertEqual(ask(begins()), [[0]])
        self.assertEqual(ask(begins(), begins()), [[0], [0]])
        self.assertEqual(last(secret(1, "ab"), feed("xa"), begins()), [0])

    def test_secrets_are_gone(self):
        self.assertEqual(last(secret(15, "abcd"), begins(), feed("abcd 61626364 YWJjZA")),
                         said(0, "abcd 61626364 YWJjZA"))

    def test_the_count_of_secrets_is_gone(self):
        five = [secret(1, "ab")] * 5
        parts = ask(*five, begins(), *five, secret(1, "ab"))
        self.assertEqual(parts, [[1]] * 5 + [[0]] + [[1]] * 5 + [[-7]])

    def test_a_secret_may_be_told_again_though_something_had_come(self):
        self.assertEqual(ask(feed("x"), secret(1, "ab"), begins(), secret(1, "ab"))[1:], [[-3], [0], [1]])

    def test_what_was_held_is_gone(self):
        parts = ask(secret(1, "abc"), feed("xab"), begins(), secret(1, "abc"), feed("c"), ends())
        self.assertEqual(parts[1:], [said(2, "x"), [0], [1], said(0, "c"), [0]])

    def test_what_was_held_is_not_shown_at_the_end(self):
        self.assertEqual(ask(secret(1, "abc"), feed("xab"), begins(), ends())[1:], [said(2, "x"), [0], [0]])

    def test_what_was_covered_is_not_counted_and_its_row_does_not_go_on(self):
        parts = ask(secret(1, "abc"), feed("abc"), begins(), secret(1, "abc"), feed("abc"), ends())
        self.assertEqual(parts[1:], [said(0, "***"), [0], [1], said(0, "***"), [3]])

    def test_the_length_of_the_text_is_gone(self):
        self.assertEqual(ask(feed("x" * 300), begins(), feed("y" * 300))[1:], [[0], said(0, "y" * 300)])


if __name__ == "__main__":
    unittest.main()
