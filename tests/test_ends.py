import unittest

from helper import ask, ends, feed, last, said, secret


class Ends(unittest.TestCase):
    def test_where_nothing_has_come(self):
        self.assertEqual(ask(ends()), [[0]])
        self.assertEqual(ask(ends(), ends()), [[0], [0]])
        self.assertEqual(ask(secret(1, "ab"), feed(""), ends())[1:], [[0], [0]])
        self.assertEqual(ask(secret(1, "ab"), feed("ab"), ends(), ends())[1:], [said(0, "***"), [2], [0]])

    def test_where_nothing_is_held(self):
        self.assertEqual(ask(secret(1, "ab"), feed("xyz"), ends())[1:], [said(0, "xyz"), [0]])

    def test_how_many_bytes_were_covered(self):
        self.assertEqual(last(secret(1, "ab"), feed("xabyab"), feed("abz"), ends()), [6])
        self.assertEqual(last(secret(1, "abc"), secret(1, "cde"), feed("abcde"), ends()), [5])
        self.assertEqual(last(secret(1, "aa"), feed("aaaa"), ends()), [4])
        self.assertEqual(last(secret(1, "ab"), secret(1, "ab"), feed("ab"), ends()), [2])
        self.assertEqual(last(secret(6, [0x12]), feed("12"), ends()), [2])
        self.assertEqual(last(secret(1, "k"), feed("k" * 300), ends()), [300])

    def test_stars_of_the_text_are_not_counted(self):
        self.assertEqual(last(secret(1, "ab"), feed("***ab***"), ends()), [2])

    def test_what_was_held_is_shown(self):
        self.assertEqual(ask(secret(1, "abc"), feed("xab"), ends())[1:], [said(2, "x"), said(0, "ab")])
        self.assertEqual(last(secret(2, "abcdefghijkl"), feed("6162636465666768696a6b6"), ends()),
                         said(0, "6162636465666768696a6b6"))

    def test_covered_bytes_that_were_held(self):
        two = [secret(1, "abcd"), secret(1, "bc")]
        self.assertEqual(ask(*two, feed("abc"), ends())[2:], [[3], said(2, "a***")])
        self.assertEqual(ask(secret(1, "aXbXc"), secret(1, "X"), feed("XaXb"), ends())[2:],
                         [said(3, "***"), said(2, "a***b")])

    def test_what_was_held_behind_a_covered_row(self):
        self.assertEqual(ask(secret(1, "ab"), secret(1, "abcd"), feed("abc"), ends())[2:],
                         [said(1, "***"), said(2, "c")])

    def test_a_new_text_begins(self):
        one = secret(1, "abc")
        self.assertEqual(ask(one, feed("ab"), ends(), feed("c"), ends())[1:], [[2], said(0, "ab"), said(0, "c"), [0]])
        self.assertEqual(ask(one, feed("abc"), ends(), feed("abc"), ends())[1:],
                         [said(0, "***"), [3], said(0, "***"), [3]])
        self.assertEqual(ask(one, feed("xyz"), ends(), feed("uvw"), ends())[1:],
                         [said(0, "xyz"), [0], said(0, "uvw"), [0]])

    def test_secrets_stay(self):
        parts = ask(secret(1, "abc"), secret(2, "k"), ends(), feed("abc 6b"), ends(), feed("6babc"), ends())
        self.assertEqual(parts[2:], [[0], said(0, "*** ***"), [5], said(0, "***"), [5]])

    def test_secrets_may_be_told_again(self):
        parts = ask(secret(1, "ab"), feed("abcd"), secret(1, "cd"), ends(), secret(1, "cd"), feed("abxcd"), ends())
        self.assertEqual(parts[1:], [said(0, "***cd"), [-3], [2], [1], said(0, "***x***"), [4]])


if __name__ == "__main__":
    unittest.main()
