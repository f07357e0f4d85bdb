import base64
import unittest

from helper import (ask, begins, ends, feed, last, plain_covered, plain_shown, plain_spellings, said, secret,
                    shown_in)

FIVE = [secret(1, "ab"), secret(2, "cd"), secret(4, "ef"), secret(8, "g"), secret(15, "hijk")]


class HowMany(unittest.TestCase):
    def test_each_sum_for_each_length(self):
        inner = {1: 0, 2: 0, 3: 1}
        for size in range(1, 13):
            for which in range(1, 16):
                with self.subTest(size=size, which=which):
                    count = sum(1 for one in (1, 2, 4) if which & one)
                    count += inner.get(size, 3) if which & 8 else 0
                    self.assertEqual(last(secret(which, "k" * size)), [count])

    def test_inner_rows_with_fewer_than_four_signs_are_left_out(self):
        self.assertEqual(last(secret(8, "ab")), [0])
        self.assertEqual(last(secret(8, "abc")), [1])
        self.assertEqual(last(secret(8, "abcd")), [3])

    def test_the_same_spelling_counts_twice(self):
        self.assertEqual(last(secret(6, [0x12, 0x34])), [2])
        self.assertEqual(ask(secret(1, "ab"), secret(1, "ab")), [[1], [1]])

    def test_each_spelling_is_covered_and_no_other(self):
        for text in (b"k", b"kO", b"kOz", b"kOz/", b"\x00\xff\xfb\xf0\x0f", b"abcdefghijkl"):
            for which in range(1, 16):
                wanted = plain_spellings(which, text)
                for one in plain_spellings(15, text):
                    with self.subTest(text=text, which=which, one=one):
                        covered = plain_covered(one, wanted)
                        self.assertEqual(shown_in([secret(which, text)], [one]),
                                         (plain_shown(one, covered), len(covered)))


class Refusals(unittest.TestCase):
    def test_which_is_1_to_15(self):
        for which in range(1, 16):
            self.assertGreaterEqual(last(secret(which, "abcd"))[0], 1)
        for which in (0, 16, 17, 23, 31, 32, 33, 255, 256, 257, 65537, 2147483649, 4294967281, 4294967295):
            with self.subTest(which=which):
                self.assertEqual(last(secret(which, "abcd")), [-1])

    def test_a_secret_has_1_to_12_bytes(self):
        for size in range(21):
            with self.subTest(size=size):
                self.assertEqual(last(secret(1, "a" * size)), [1] if 1 <= size <= 12 else [-1])

    def test_a_secret_has_no_star(self):
        for text in ("*", "*a", "a*", "a*b", "***", "abcdefghijk*", "abcdef*ghijkl"):
            for which in (1, 2, 8, 15):
                with self.subTest(text=text, which=which):
                    self.assertEqual(last(secret(which, text)), [-1])

    def test_any_other_byte_may_be_in_a_secret(self):
        for byte in range(256):
            with self.subTest(byte=byte):
                self.assertEqual(last(secret(1, [byte])), [-1] if byte == 42 else [1])

    def test_something_has_come_of_the_text(self):
        self.assertEqual(last(feed("x"), secret(1, "ab")), [-3])
        self.assertEqual(last(secret(1, "xy"), feed("x"), secret(1, "ab")), [-3])
        self.assertEqual(last(secret(1, "xy"), feed("xy"), secret(1, "ab")), [-3])
        self.assertEqual(last(feed("x"), feed(""), secret(1, "ab")), [-3])
        self.assertEqual(last(feed("x"), feed("y" * 300), secret(1, "ab")), [-3])

    def test_nothing_has_come_of_the_text(self):
        self.assertEqual(last(feed(""), secret(1, "ab")), [1])
        self.assertEqual(last(feed("x" * 301), secret(1, "ab")), [1])
        self.assertEqual(last(feed("x"), ends(), secret(1, "ab")), [1])
        self.assertEqual(last(feed("x"), begins(), secret(1, "ab")), [1])

    def test_there_are_five(self):
        self.assertEqual(ask(*FIVE, secret(1, "l")), [[1], [1], [1], [0], [6], [-7]])

    def test_a_secret_without_spellings_is_one_of_the_five(self):
        self.assertEqual(ask(*[secret(8, "a")] * 6), [[0]] * 5 + [[-7]])

    def test_one_with_many_spellings_is_one_of_the_five(self):
        self.assertEqual(ask(*[secret(15, "abcd")] * 6), [[6]] * 5 + [[-7]])

    def test_five_still_stand_when_the_text_has_ended(self):
        self.assertEqual(last(*FIVE, feed("x"), ends(), secret(1, "l")), [-7])

    def test_of_several_the_one_told_first(self):
        for wrong in (secret(0, "ab"), secret(16, "ab"), secret(1, ""), secret(1, "a*"), secret(1, "a" * 13)):
            self.assertEqual(last(feed("x"), wrong), [-1])
            self.assertEqual(last(*FIVE, wrong), [-1])
            self.assertEqual(last(*FIVE, feed("x"), wrong), [-1])
        self.assertEqual(last(*FIVE, feed("x"), secret(1, "l")), [-3])
        self.assertEqual(last(*FIVE, secret(1, "l")), [-7])

    def test_after_a_refusal_all_is_as_it_was(self):
        for wrong in (secret(0, "xy"), secret(16, "xy"), secret(17, "xy"), secret(1, "xy*")):
            parts = ask(wrong, *FIVE, feed("xyab"), wrong, feed("6"), wrong, feed("364"), ends())
            self.assertEqual(parts[1:6], [[1], [1], [1], [0], [6]])
            self.assertEqual(parts[6:], [said(0, "xy***"), [-1], [1], [-1], [0], [6]])

    def test_a_secret_that_came_too_late_covers_nothing(self):
        parts = ask(secret(1, "ab"), feed("a"), secret(1, "xy"), feed("bxy"), ends(), feed("xyab"), ends())
        self.assertEqual(parts, [[1], [1], [-3], said(0, "***xy"), [2], said(0, "xy***"), [2]])

    def test_a_secret_that_came_too_late_is_none_of_the_five(self):
        parts = ask(feed("x"), *[secret(1, "ab")] * 5, ends(), *[secret(1, "ab")] * 6)
        self.assertEqual(parts[1:], [[-3]] * 5 + [[0]] + [[1]] * 5 + [[-7]])

    def test_the_sixth_covers_nothing(self):
        self.assertEqual(ask(*FIVE, secret(1, "xy"), feed("xyab"))[5:], [[-7], said(0, "xy***")])


class Base64(unittest.TestCase):
    def test_one_inner_row_stands_whatever_is_before_and_behind(self):
        for text in (b"abcd", b"\x00\x00\x00\x00", b"\xff\xfe\xfd\xfc\xfb", b"pass word", b"abcdefghijkl"):
            for before in (b"", b"u", b"u:", b"us:", b"user\xff"):
                for behind in (b"", b"!", b"!!", b"\xff\xff\xff"):
                    with self.subTest(text=text, before=before, behind=behind):
                        shown, covered = shown_in([secret(8, text)], [base64.b64encode(before + text + behind)])
                        self.assertIn(b"***", shown)
                        self.assertGreaterEqual(covered, (8 * len(text) - 4) // 6)


if __name__ == "__main__":
    unittest.main()
