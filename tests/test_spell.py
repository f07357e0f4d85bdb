import unittest

from helper import ask, ask_between, begins, ends, feed, held, last, plain_spellings, said, secret, spell, spelled, whole

FIVE = [secret(1, "ab"), secret(2, "cd"), secret(4, "ef"), secret(8, "g"), secret(15, "hijk")]
# What is refused, by its spellings or by its bytes.
WRONG = ([(which, "abcd") for which in (0, 16, 17, 31, 32, 255, 256, 65537, 2147483649, 4294967281, 4294967295)]
         + [(which, "a" * size) for which in (1, 15) for size in [0] + list(range(13, 21))]
         + [(which, text) for which in (1, 2, 8, 15) for text in ("*", "*a", "a*", "a*b", "abcdefghijk*")]
         + [(0, ""), (16, "*"), (4294967295, "a" * 20)])


class Spellings(unittest.TestCase):
    def test_itself(self):
        self.assertEqual(ask(spell(1, "ab")), [[1, 2, 97, 98]])
        self.assertEqual(last(spell(1, [0])), [1, 1, 0])
        self.assertEqual(last(spell(1, [255, 0, 41, 43])), [1, 4, 255, 0, 41, 43])
        self.assertEqual(last(spell(1, "abcdefghijkl")), spelled("abcdefghijkl"))

    def test_sixteens(self):
        text = [0x4F, 0xA0, 0x0B]
        self.assertEqual(last(spell(2, text)), spelled("4fa00b"))
        self.assertEqual(last(spell(4, text)), spelled("4FA00B"))
        self.assertEqual(last(spell(6, text)), spelled("4fa00b", "4FA00B"))
        self.assertEqual(last(spell(2, "k")), [1, 2, 54, 98])
        self.assertEqual(last(spell(4, "k")), [1, 2, 54, 66])
        self.assertEqual(last(spell(2, [0, 255] * 6)), spelled("00ff" * 6))

    def test_every_byte_in_sixteens(self):
        for byte in range(256):
            expected = [-1] if byte == 42 else spelled(f"{byte:02x}", f"{byte:02X}")
            self.assertEqual(last(spell(6, [byte])), expected)

    def test_inner_rows(self):
        self.assertEqual(last(spell(8, "k")), [0])
        self.assertEqual(last(spell(8, "kO")), [0])
        self.assertEqual(last(spell(8, "abc")), spelled("YWJj"))
        self.assertEqual(last(spell(8, "abcd")), spelled("YWJjZ", "FiY2", "hYmNk"))
        self.assertEqual(last(spell(8, "secret")), spelled("c2VjcmV0", "NlY3Jld", "zZWNyZX"))
        self.assertEqual(last(spell(8, "abcdefghijkl")),
                         spelled("YWJjZGVmZ2hpamts", "FiY2RlZmdoaWprb", "hYmNkZWZnaGlqa2"))

    def test_signs_at_the_edges_of_base_64(self):
        self.assertEqual(last(spell(8, [0, 0x10, 0x83])), spelled("ABCD"))
        self.assertEqual(last(spell(8, [0xFB, 0xFF, 0xBF])), spelled("+/+/"))
        self.assertEqual(last(spell(8, [255] * 4)), spelled("/////", "////", "/////"))
        # Z, a, z, 0, 9, + : where one row of signs goes over into the next.
        self.assertEqual(last(spell(8, [0x65, 0xA6, 0xB3])), spelled("Zaaz"))
        self.assertEqual(last(spell(8, [0xD3, 0xDF, 0xBE])), spelled("09++"))

    def test_the_order(self):
        self.assertEqual(last(spell(15, "kOz/")),
                         spelled("kOz/", "6b4f7a2f", "6B4F7A2F", "a096L", "tPei", "rT3ov"))
        self.assertEqual(last(spell(9, "abc")), spelled("abc", "YWJj"))
        self.assertEqual(last(spell(5, "k")), spelled("k", "6B"))
        self.assertEqual(last(spell(15, "k")), spelled("k", "6b", "6B"))
        self.assertEqual(last(spell(12, "kO")), spelled("6B4F"))
        self.assertEqual(last(spell(10, "kOz")), spelled("6b4f7a", "a096"))

    def test_the_same_spelling_twice(self):
        self.assertEqual(last(spell(6, [0x12, 0x34])), spelled("1234", "1234"))
        self.assertEqual(last(spell(8, [0] * 4)), spelled("AAAAA", "AAAA", "AAAAA"))

    def test_each_sum_for_each_length(self):
        for size in range(1, 13):
            for text in (bytes(range(200, 200 + size)), b"\x00" * size, b"\xff" * size, b"pass word 12"[:size]):
                for which in range(1, 16):
                    with self.subTest(text=text, which=which):
                        self.assertEqual(last(spell(which, text)), spelled(*plain_spellings(which, text)))

    def test_as_many_as_secret_says_and_those_it_covers(self):
        for text in ("k", "kO", "kOz", "kOz/", "abcdefghijkl"):
            for which in range(1, 16):
                answer = last(spell(which, text))
                self.assertEqual(last(secret(which, text)), answer[:1])
                place = 1
                while place < len(answer):
                    one = answer[place + 1:place + 1 + answer[place]]
                    self.assertEqual(ask(secret(which, text), feed(one), ends())[1:], [said(0, "***"), [len(one)]])
                    place += 1 + answer[place]


class Refusals(unittest.TestCase):
    def test_no_spellings_or_no_secret(self):
        for which, text in WRONG:
            with self.subTest(which=which, text=text):
                self.assertEqual(ask(spell(which, text)), [[-1]])

    def test_as_secret_refuses(self):
        for which in range(18):
            for size in range(21):
                self.assertEqual(last(spell(which, "a" * size))[0], last(secret(which, "a" * size))[0])

    def test_not_refused_though_something_has_come(self):
        self.assertEqual(last(feed("x"), spell(1, "ab")), spelled("ab"))
        self.assertEqual(last(secret(1, "xy"), feed("x"), spell(2, "ab")), spelled("6162"))
        self.assertEqual(last(feed("x" * 300), spell(8, "abc")), spelled("YWJj"))

    def test_not_refused_though_there_are_five(self):
        self.assertEqual(last(*FIVE, spell(1, "l")), spelled("l"))
        self.assertEqual(last(*FIVE, feed("x"), spell(6, "l")), spelled("6c", "6C"))

    def test_wrong_ones_are_refused_then_too(self):
        for which, text in WRONG:
            self.assertEqual(ask(*FIVE, spell(which, text), feed("x"), spell(which, text))[5:],
                             [[-1], said(0, "x"), [-1]])


class NothingChanges(unittest.TestCase):
    def test_no_secret_is_added(self):
        self.assertEqual(ask(spell(15, "abcd"), feed("abcd 61626364 YWJjZ"), ends())[1:],
                         [said(0, "abcd 61626364 YWJjZ"), [0]])
        self.assertEqual(ask(spell(1, "abcd"), feed("abc"), held())[1:], [said(0, "abc"), [0]])
        self.assertEqual(ask(spell(1, "ab"), whole("ab"))[1:], [said(2, "ab")])

    def test_it_is_none_of_the_five(self):
        parts = ask(*[spell(1, "ab")] * 6, *[secret(1, "ab")] * 5, spell(1, "ab"), secret(1, "ab"))
        self.assertEqual(parts, [spelled("ab")] * 6 + [[1]] * 5 + [spelled("ab"), [-7]])

    def test_nothing_has_come_by_it(self):
        self.assertEqual(ask(spell(1, "ab"), spell(0, "ab"), secret(1, "ab"))[2:], [[1]])

    def test_the_text_and_the_secrets_stay(self):
        calls = [secret(1, "abcd"), secret(3, "bc"), feed("xa"), held(), feed("bc"), feed("d6"), secret(1, "x"),
                 feed("263"), feed("ab"), ends(), secret(8, "wxyz"), feed("d3h5"), whole("abcd"), feed("y" * 297),
                 begins(), secret(1, "x"), feed("abcdx"), ends()]
        for between in (spell(15, "xyab"), spell(1, "x"), spell(8, "x"), spell(0, "x"), spell(1, ""), spell(1, "x*")):
            self.assertEqual(ask_between(calls, between), ask(*calls))

    def test_the_answer_is_the_same_wherever_it_is_asked(self):
        parts = ask(spell(15, "abcd"), *FIVE, spell(15, "abcd"), feed("abc"), spell(15, "abcd"), ends(),
                    spell(15, "abcd"), begins(), spell(15, "abcd"))
        for place in (0, 6, 8, 10, 12):
            self.assertEqual(parts[place], spelled(*plain_spellings(15, b"abcd")))


if __name__ == "__main__":
    unittest.main()
