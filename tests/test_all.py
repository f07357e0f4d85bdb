import base64
import itertools
import unittest

from helper import ask, ask_between, begins, ends, feed, held, last, said, secret, shown_in, spell, whole


class Shown(unittest.TestCase):
    def check(self, secrets, text, shown):
        """All of the text, which is also what is shown of it when it is fed."""
        self.assertEqual(last(*secrets, whole(text)), said(len(text), shown))
        self.assertEqual(shown_in(secrets, [text])[0], shown.encode("latin-1"))

    def test_no_bytes(self):
        self.assertEqual(ask(whole("")), [[0]])
        self.assertEqual(last(secret(15, "abcd"), whole("")), [0])

    def test_no_secrets(self):
        self.check([], "abc*def", "abc*def")
        self.check([], "x", "x")
        self.assertEqual(last(whole(range(256))), said(256, range(256)))

    def test_how_many_they_are_counts_the_bytes_handed_over(self):
        self.assertEqual(last(secret(1, "k"), whole("k" * 300)), said(300, "***"))
        self.assertEqual(last(secret(1, "k"), whole("k")), said(1, "***"))
        self.assertEqual(last(secret(1, "ab"), whole("xabyab")), said(6, "x***y***"))

    def test_each_spelling(self):
        text = "abcd ABCD 61626364 6a 6A YWJjZ FiY2 hYmNk"
        self.check([secret(1, "abcd")], text, text.replace("abcd", "***"))
        self.check([secret(2, "j")], text, text.replace("6a", "***"))
        self.check([secret(4, "j")], text, text.replace("6A", "***"))
        self.check([secret(6, "abcd")], text, text.replace("61626364", "***"))
        self.check([secret(8, "abcd")], text, "abcd ABCD 61626364 6a 6A *** *** ***")
        self.check([secret(15, "abcd")], text, "*** ABCD *** 6a 6A *** *** ***")
        self.check([secret(8, "ab")], "ab YWI 6162", "ab YWI 6162")

    def test_within_base_64(self):
        self.check([secret(8, "secret")], base64.b64encode(b"u:!secret!").decode(), "dToh***IQ==")
        self.check([secret(8, "secret")], base64.b64encode(b"usecret!").decode(), "dX***CE=")
        self.check([secret(8, "secret")], base64.b64encode(b"u:secret!").decode(), "dTp***Qh")

    def test_spellings_that_overlap(self):
        self.check([secret(1, "abc"), secret(1, "cde")], "xabcdey", "x***y")
        self.check([secret(1, "abc"), secret(1, "cde")], "xabcdy", "x***dy")
        self.check([secret(1, "abcd"), secret(1, "bc")], "abcdabc", "***a***")
        self.check([secret(1, "aba")], "xababax", "x***x")
        self.check([secret(1, "ab"), secret(1, "ab")], "xabx", "x***x")
        # In sixteens "13" is "3133".
        self.check([secret(3, "13")], "x13133x", "x***x")
        self.check([secret(3, "13")], "x31331x", "x***1x")

    def test_spellings_beside_each_other(self):
        self.check([secret(1, "ab"), secret(1, "cd")], "xabcdy", "x***y")
        self.check([secret(1, "ab"), secret(1, "cd")], "cdabab", "***")
        self.check([secret(1, "ab"), secret(1, "cd")], "ab cd", "*** ***")
        self.check([secret(3, "ab")], "ab6162ab", "***")

    def test_spellings_at_the_beginning_and_at_the_end(self):
        self.check([secret(1, "ab")], "abxab", "***x***")
        self.check([secret(1, "ab")], "ab", "***")

    def test_spellings_that_are_not_over_at_the_end(self):
        self.check([secret(1, "abc")], "xab", "xab")
        self.check([secret(1, "abc")], "abcab", "***ab")
        self.check([secret(1, "ab"), secret(1, "abcd")], "abc", "***c")
        self.check([secret(1, "abcd"), secret(1, "bc")], "abc", "a***")
        self.check([secret(2, "ab")], "616", "616")

    def test_stars_of_the_text_are_shown_as_they_are(self):
        self.check([secret(1, "ab")], "*ab**", "******")
        self.check([secret(1, "ab")], "a*b", "a*b")

    def test_every_short_text_as_it_is_fed_byte_by_byte(self):
        secrets = [secret(1, "aba"), secret(1, "ab"), secret(1, "bbaa")]
        for size in range(9):
            for signs in itertools.product("ab", repeat=size):
                shown, unused = shown_in(secrets, signs)
                self.assertEqual(last(*secrets, whole("".join(signs))), said(size, shown))


class Length(unittest.TestCase):
    def test_at_most_300_bytes(self):
        self.assertEqual(last(whole("x" * 299)), said(299, "x" * 299))
        self.assertEqual(last(whole("x" * 300)), said(300, "x" * 300))
        for size in (301, 302, 319, 320):
            self.assertEqual(ask(whole("x" * size)), [[-7]])
            self.assertEqual(last(secret(1, "x"), whole("x" * size)), [-7])

    def test_what_has_come_does_not_count(self):
        self.assertEqual(ask(feed("x" * 300), whole("y" * 300), whole("y" * 301), feed("x"))[1:],
                         [said(300, "y" * 300), [-7], [-7]])

    def test_it_does_not_count_for_what_comes(self):
        self.assertEqual(ask(whole("y" * 300), feed("x" * 300))[1:], [said(0, "x" * 300)])
        self.assertEqual(ask(feed("x"), whole("y" * 300), feed("x" * 299))[2:], [said(0, "x" * 299)])


class NothingChanges(unittest.TestCase):
    def test_nothing_has_come_by_it(self):
        self.assertEqual(ask(whole("ab"), held(), secret(1, "ab"), whole("ab"), ends())[1:],
                         [[0], [1], said(2, "***"), [0]])
        self.assertEqual(ask(whole("x" * 301), secret(1, "ab"))[1:], [[1]])

    def test_while_a_text_is_being_fed(self):
        parts = ask(secret(1, "abc"), feed("xab"), whole("cabc"), held(), feed("c"), whole("ab"), held(), feed("a"),
                    whole("bc"), ends())
        self.assertEqual(parts[1:], [said(2, "x"), said(4, "c***"), said(2, "ab"), said(0, "***"), said(2, "ab"), [0],
                                     [1], said(2, "bc"), said(3, "a")])

    def test_it_does_not_go_on_from_the_text(self):
        # Neither a spelling that has begun nor a covered row reaches from the text into it, or back.
        self.assertEqual(ask(secret(1, "ab"), feed("a"), whole("b"), feed("b"), whole("ab"), feed("ab"), ends())[1:],
                         [[1], said(1, "b"), said(0, "***"), said(2, "***"), [0], [4]])

    def test_covered_bytes_in_it_are_not_counted_by_ends(self):
        self.assertEqual(ask(secret(1, "ab"), feed("xab"), whole("ababab"), ends())[2:], [said(6, "***"), [2]])

    def test_the_secrets_of_the_moment_count(self):
        text = "ab cd"
        parts = ask(whole(text), secret(1, "ab"), whole(text), secret(1, "cd"), whole(text), feed("x"),
                    secret(1, " "), whole(text), ends(), whole(text), begins(), whole(text))
        self.assertEqual(parts[0::2], [said(5, text), said(5, "*** cd"), said(5, "*** ***"), [-3], [0], [0]])
        self.assertEqual(parts[7::2], [said(5, "*** ***"), said(5, "*** ***"), said(5, text)])

    def test_the_text_and_the_secrets_stay(self):
        calls = [secret(1, "abcd"), secret(3, "bc"), feed("xa"), held(), feed("bc"), feed("d6"), secret(1, "x"),
                 feed("263"), feed("ab"), ends(), secret(8, "wxyz"), feed("d3h5"), spell(15, "abcd"), feed("y" * 297),
                 begins(), secret(1, "x"), feed("abcdx"), ends()]
        for between in (whole("abcd"), whole("bcd6263d3h"), whole(""), whole("a" * 300), whole("a" * 301)):
            self.assertEqual(ask_between(calls, between), ask(*calls))


if __name__ == "__main__":
    unittest.main()
