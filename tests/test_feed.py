import base64
import itertools
import unittest

from helper import ask, ends, feed, last, pieces_of, said, secret, shown_in


def byte_by_byte(secrets, text):
    return ask(*secrets, *[feed(sign) for sign in text])[len(secrets):]


class Covering(unittest.TestCase):
    def check(self, secrets, text, shown, covered):
        """The same in one piece, byte by byte, and in other pieces (some without bytes)."""
        for sizes in ([len(text)], [1], [2], [3], [1, 2], [5, 1], [0, 4]):
            pieces = pieces_of(text, sizes)
            if len(secrets) + len(pieces) < 40:
                with self.subTest(text=text, sizes=sizes):
                    self.assertEqual(shown_in(secrets, pieces), (shown.encode("latin-1"), covered))

    def test_no_secrets(self):
        self.check([], "abc*def", "abc*def", 0)
        self.assertEqual(last(feed("abc")), said(0, "abc"))

    def test_one_secret(self):
        one = [secret(1, "abc")]
        self.check(one, "xabcy", "x***y", 3)
        self.check(one, "abc", "***", 3)
        self.check(one, "abcxabc", "***x***", 6)
        self.check(one, "ababcab", "ab***ab", 3)
        self.check(one, "ABCabxabd", "ABCabxabd", 0)
        self.check([secret(1, "k")], "kxkkyk", "***x***y***", 4)

    def test_stars_of_the_text_are_shown_as_they_are(self):
        self.check([secret(1, "ab")], "*ab**", "******", 2)
        self.check([secret(1, "ab")], "a*b***", "a*b***", 0)

    def test_bytes_at_the_edges(self):
        self.check([secret(1, [0, 255])], "\x00\x00\xff\xff", "\x00***\xff", 2)
        self.check([secret(1, [0])], "\x00x\x01", "***x\x01", 1)

    def test_secrets_that_overlap(self):
        two = [secret(1, "abc"), secret(1, "cde")]
        self.check(two, "xabcdey", "x***y", 5)
        self.check(two, "abcdx", "***dx", 3)
        self.check(two, "abcde", "***", 5)
        self.check([secret(1, "abcd"), secret(1, "bc")], "abcx", "a***x", 2)
        self.check([secret(1, "abcd"), secret(1, "bc")], "abcdx", "***x", 4)

    def test_secrets_beside_each_other(self):
        two = [secret(1, "ab"), secret(1, "cd")]
        self.check(two, "xabcdy", "x***y", 4)
        self.check(two, "cdababcd", "***", 8)
        self.check(two, "ab cd", "*** ***", 4)

    def test_secrets_that_begin_one_another(self):
        two = [secret(1, "ab"), secret(1, "abcd")]
        self.check(two, "abcd", "***", 4)
        self.check(two, "abcx", "***cx", 2)
        self.check(two, "abcabcd", "***c***", 6)
        self.check(two[::-1], "abcabcd", "***c***", 6)

    def test_secrets_that_repeat_themselves(self):
        self.check([secret(1, "aa")], "aaaxa", "***xa", 3)
        self.check([secret(1, "aba")], "xababax", "x***x", 5)
        self.check([secret(1, "aba")], "ababx", "***bx", 3)
        self.check([secret(1, "aab")], "aaabaab", "a***", 6)
        self.check([secret(1, "abcabcd")], "abcabcabcd", "abc***", 7)

    def test_the_same_secret_twice(self):
        self.check([secret(1, "ab"), secret(3, "ab")], "xabx6162", "x***x***", 6)

    def test_a_secret_without_spellings_covers_nothing(self):
        self.check([secret(8, "ab")], "ab YWI 6162", "ab YWI 6162", 0)

    def test_sixteens(self):
        text = [0x4F, 0xA0, 0x0B]
        self.check([secret(2, text)], "x4fa00bx", "x***x", 6)
        self.check([secret(2, text)], "4FA00B 4Fa00b", "4FA00B 4Fa00b", 0)
        self.check([secret(4, text)], "x4FA00Bx", "x***x", 6)
        self.check([secret(4, text)], "4fa00b 4fa00B", "4fa00b 4fa00B", 0)
        self.check([secret(6, text)], "4fa00b 4FA00B 4fA00b", "*** *** 4fA00b", 12)
        self.check([secret(6, text)], "O\xa0\x0b", "O\xa0\x0b", 0)

    def test_every_byte_in_sixteens(self):
        for byte in range(256):
            if byte != 42:
                self.assertEqual(last(secret(2, [byte]), feed(f"{byte:02x}")), said(0, "***"))
                self.assertEqual(last(secret(4, [byte]), feed(f"{byte:02X}")), said(0, "***"))

    def test_within_base_64(self):
        one = [secret(8, "secret")]
        self.check(one, base64.b64encode(b"secret").decode(), "***", 8)
        self.check(one, base64.b64encode(b"u:!secret!").decode(), "dToh***IQ==", 8)
        # The signs that a secret shares with what stands before or behind it are in no inner row.
        self.check(one, base64.b64encode(b"usecret!").decode(), "dX***CE=", 7)
        self.check(one, base64.b64encode(b"u:secret!").decode(), "dTp***Qh", 7)
        self.check(one, "secret", "secret", 0)

    def test_every_sign_of_base_64(self):
        signs = "ABCDEFGHIJKLMNOPQRSTUVWXYZabcdefghijklmnopqrstuvwxyz0123456789+/"
        for start in range(0, 64, 4):
            text = base64.b64decode(signs[start:start + 4])
            if b"*" not in text:
                self.assertEqual(last(secret(8, text), feed(signs[start:start + 4])), said(0, "***"))

    def test_the_longest_spelling(self):
        self.check([secret(2, "abcdefghijkl")], "x6162636465666768696a6b6cy", "x***y", 24)


class Held(unittest.TestCase):
    def test_byte_by_byte(self):
        self.assertEqual(byte_by_byte([secret(1, "abc")], "xabcyab"),
                         [said(0, "x"), [1], [2], said(0, "***"), said(0, "y"), [1], [2]])

    def test_what_goes_on_otherwise_is_shown(self):
        self.assertEqual(byte_by_byte([secret(1, "abc")], "abx"), [[1], [2], said(0, "abx")])
        self.assertEqual(byte_by_byte([secret(1, "abc")], "aabd"), [[1], said(1, "a"), [2], said(0, "abd")])
        self.assertEqual(byte_by_byte([secret(1, "aab")], "aaab"), [[1], [2], said(2, "a"), said(0, "***")])

    def test_no_more_is_held_than_needs_be(self):
        self.assertEqual(last(secret(1, "abcabd"), feed("abcabc")), said(3, "abc"))
        self.assertEqual(last(secret(1, "k"), feed("xyz")), said(0, "xyz"))
        self.assertEqual(last(secret(1, "abc"), feed("bc")), said(0, "bc"))

    def test_covered_bytes_that_may_begin_a_spelling_are_not_held(self):
        self.assertEqual(last(secret(1, "ab"), secret(1, "bc"), feed("ab")), said(0, "***"))
        self.assertEqual(last(secret(1, "aba"), feed("aba")), said(0, "***"))
        self.assertEqual(last(secret(1, "aba"), feed("abab")), said(1, "***"))
        self.assertEqual(last(secret(1, "ab"), secret(1, "abcd"), feed("xab")), said(0, "x***"))
        self.assertEqual(last(secret(1, "ab"), secret(1, "abcd"), feed("xabc")), said(1, "x***"))

    def test_covered_bytes_behind_one_that_is_not_settled_are_held(self):
        two = [secret(1, "abcd"), secret(1, "bc")]
        self.assertEqual(byte_by_byte(two, "xabcx"), [said(0, "x"), [1], [2], [3], said(0, "a***x")])
        self.assertEqual(byte_by_byte(two, "abcd"), [[1], [2], [3], said(0, "***")])
        self.assertEqual(last(secret(1, "aXbXc"), secret(1, "X"), feed("XaXb")), said(3, "***"))

    def test_the_longest_end_that_begins_a_spelling_counts(self):
        two = [secret(1, "abcx"), secret(1, "cy")]
        self.assertEqual(byte_by_byte(two, "abcy"), [[1], [2], [3], said(0, "ab***")])
        self.assertEqual(byte_by_byte(two[::-1], "abcx"), [[1], [2], [3], said(0, "***")])

    def test_spellings_in_sixteens_and_base_64_are_held(self):
        self.assertEqual(last(secret(2, "abcdefghijkl"), feed("x6162636465666768696a6b6")), said(23, "x"))
        self.assertEqual(last(secret(4, [0xAB]), feed("xA")), said(1, "x"))
        self.assertEqual(last(secret(4, [0xAB]), feed("xa")), said(0, "xa"))
        self.assertEqual(last(secret(8, "secret"), feed("c2VjcmV")), [7])
        self.assertEqual(last(secret(8, "secret"), feed("zNlY3Jl")), said(6, "z"))

    def test_a_whole_spelling_is_not_a_beginning(self):
        self.assertEqual(last(secret(1, "ab"), feed("ab")), said(0, "***"))


class StarsOnce(unittest.TestCase):
    def test_more_bytes_of_the_row_come_in_later_pieces(self):
        self.assertEqual(byte_by_byte([secret(1, "aa")], "aaaax"), [[1], said(0, "***"), [0], [0], said(0, "x")])
        self.assertEqual(byte_by_byte([secret(1, "k")], "kkxk"), [said(0, "***"), [0], said(0, "x"), said(0, "***")])

    def test_a_row_that_goes_on_with_another_secret(self):
        three = [secret(1, "ab"), secret(1, "cd"), secret(1, "def")]
        self.assertEqual(byte_by_byte(three, "abcdefx"),
                         [[1], said(0, "***"), [1], [0], [1], [0], said(0, "x")])

    def test_a_row_that_seemed_to_go_on(self):
        two = [secret(1, "ab"), secret(1, "abcd")]
        self.assertEqual(byte_by_byte(two, "abcx"), [[1], said(0, "***"), [1], said(0, "cx")])
        self.assertEqual(byte_by_byte(two, "abcdab"), [[1], said(0, "***"), [1], [0], [1], [0]])

    def test_a_piece_without_bytes_within_a_row(self):
        parts = ask(secret(1, "ab"), feed("ab"), feed(""), feed("ab"), feed(""), feed("x"))
        self.assertEqual(parts[1:], [said(0, "***"), [0], [0], [0], said(0, "x")])


class Pieces(unittest.TestCase):
    def test_a_piece_without_bytes(self):
        self.assertEqual(ask(feed("")), [[0]])
        self.assertEqual(ask(secret(1, "abc"), feed(""), feed("xab"), feed(""), feed("c"), feed(""))[1:],
                         [[0], said(2, "x"), [2], said(0, "***"), [0]])

    def test_every_cut_shows_the_same(self):
        secrets = [secret(1, "aba"), secret(1, "ab"), secret(1, "bbaa")]
        for signs in itertools.product("ab", repeat=7):
            text = "".join(signs)
            whole = shown_in(secrets, [text])
            for cut in range(8):
                for second in range(cut, 8):
                    pieces = [text[:cut], text[cut:second], text[second:]]
                    self.assertEqual(shown_in(secrets, pieces), whole, pieces)


class Length(unittest.TestCase):
    def test_300_bytes_at_once(self):
        self.assertEqual(last(feed("x" * 299)), said(0, "x" * 299))
        self.assertEqual(last(feed("x" * 300)), said(0, "x" * 300))
        self.assertEqual(last(feed("x" * 301)), [-7])
        self.assertEqual(last(feed("x" * 320)), [-7])

    def test_300_bytes_in_pieces(self):
        self.assertEqual(ask(feed("x" * 299), feed("y"), feed(""), feed("z"))[1:], [said(0, "y"), [0], [-7]])
        self.assertEqual(ask(feed("x" * 299), feed("yz"), feed("y"))[1:], [[-7], said(0, "y")])
        self.assertEqual(ask(feed("x"), feed("y" * 300), feed("z" * 299))[1:], [[-7], said(0, "z" * 299)])

    def test_covered_and_held_bytes_count_as_bytes_of_the_text(self):
        self.assertEqual(ask(secret(1, "k"), feed("k" * 300), feed("k"), ends())[1:], [said(0, "***"), [-7], [300]])
        self.assertEqual(ask(secret(1, "abc"), feed("x" * 298 + "ab"), feed("c"), ends())[1:],
                         [said(2, "x" * 298), [-7], said(0, "ab")])

    def test_after_a_refusal_all_is_as_it_was(self):
        parts = ask(secret(1, "abc"), feed("xab"), feed("c" * 298), feed(""), feed("c"), feed("y" * 297), ends())
        self.assertEqual(parts[1:], [said(2, "x"), [-7], [2], said(0, "***"), [-7], [3]])

    def test_a_new_text_may_have_300_bytes_again(self):
        self.assertEqual(ask(feed("x" * 300), ends(), feed("y" * 300), feed("y"))[1:],
                         [[0], said(0, "y" * 300), [-7]])


if __name__ == "__main__":
    unittest.main()
