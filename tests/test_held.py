import unittest

from helper import ask, ask_between, begins, ends, feed, held, last, said, secret, spell, whole


class Held(unittest.TestCase):
    def test_where_nothing_has_come(self):
        self.assertEqual(ask(held()), [[0]])
        self.assertEqual(ask(held(), held()), [[0], [0]])
        self.assertEqual(last(secret(15, "abcd"), held()), [0])

    def test_behind_begins(self):
        self.assertEqual(last(begins(), held()), [0])
        self.assertEqual(ask(secret(1, "abc"), feed("xab"), held(), begins(), held())[2:], [said(2, "ab"), [0], [0]])

    def test_something_is_held(self):
        self.assertEqual(last(secret(1, "abc"), feed("xab"), held()), said(2, "ab"))
        self.assertEqual(last(secret(1, "abc"), feed("a"), held()), said(1, "a"))
        self.assertEqual(last(secret(1, [0, 255, 0]), feed([7, 0, 255]), held()), said(2, [0, 255]))
        self.assertEqual(last(secret(1, "abcabd"), feed("abcabc"), held()), said(3, "abc"))

    def test_nothing_is_held(self):
        self.assertEqual(last(feed("abc"), held()), [0])
        self.assertEqual(last(secret(1, "abc"), feed("xyz"), held()), [0])
        self.assertEqual(last(secret(1, "abc"), feed("xabc"), held()), [0])
        self.assertEqual(last(secret(1, "abc"), feed("abx"), held()), [0])
        self.assertEqual(last(secret(1, "k"), feed("xkx"), held()), [0])
        self.assertEqual(last(secret(8, "ab"), feed("a"), held()), [0])

    def test_beginnings_of_each_spelling(self):
        self.assertEqual(last(secret(2, "abcdefghijkl"), feed("x6162636465666768696a6b6"), held()),
                         said(23, "6162636465666768696a6b6"))
        self.assertEqual(last(secret(4, [0xAB]), feed("xA"), held()), said(1, "A"))
        self.assertEqual(last(secret(4, [0xAB]), feed("xa"), held()), [0])
        self.assertEqual(last(secret(8, "secret"), feed("c2VjcmV"), held()), said(7, "c2VjcmV"))

    def test_covered_bytes_among_what_is_held_stand_as_they_are(self):
        self.assertEqual(last(secret(1, "abcd"), secret(1, "bc"), feed("xabc"), held()), said(3, "abc"))
        self.assertEqual(last(secret(1, "aXbXc"), secret(1, "X"), feed("XaXb"), held()), said(3, "aXb"))

    def test_covered_bytes_before_what_is_held(self):
        two = [secret(1, "ab"), secret(1, "abcd")]
        self.assertEqual(last(*two, feed("ab"), held()), [0])
        self.assertEqual(last(*two, feed("abc"), held()), said(1, "c"))
        self.assertEqual(last(secret(1, "aba"), feed("abab"), held()), said(1, "b"))

    def test_byte_by_byte(self):
        for text, rests in (("xabcyab", ("", "a", "ab", "", "", "a", "ab")), ("aababc", "a a ab a ab".split() + [""])):
            calls = [call for sign in text for call in (feed(sign), held())]
            self.assertEqual(ask(secret(1, "abc"), *calls)[2::2], [said(len(rest), rest) for rest in rests])

    def test_behind_a_feed_without_bytes(self):
        self.assertEqual(last(feed(""), held()), [0])
        self.assertEqual(last(secret(1, "abc"), feed("xab"), feed(""), held()), said(2, "ab"))

    def test_behind_a_refused_feed(self):
        self.assertEqual(ask(secret(1, "abc"), feed("xab"), feed("c" * 298), held())[2:], [[-7], said(2, "ab")])
        self.assertEqual(ask(secret(1, "abc"), feed("a" * 301), held())[1:], [[-7], [0]])

    def test_behind_a_refused_secret(self):
        self.assertEqual(ask(secret(1, "abc"), feed("xab"), secret(1, "b"), held())[2:], [[-3], said(2, "ab")])

    def test_behind_ends(self):
        self.assertEqual(last(ends(), held()), [0])
        self.assertEqual(ask(secret(1, "abc"), feed("xab"), ends(), held(), feed("ya"), held())[2:],
                         [said(0, "ab"), [0], said(1, "y"), said(1, "a")])

    def test_it_is_as_many_as_feed_says_and_shown_by_ends(self):
        parts = ask(secret(1, "abc"), feed("xab"), held(), held(), ends())
        self.assertEqual(parts[1:], [said(2, "x"), said(2, "ab"), said(2, "ab"), said(0, "ab")])

    def test_the_whole_text_may_be_held_up_to_its_last_byte(self):
        self.assertEqual(ask(secret(1, "abc"), feed("x" * 298 + "ab"), held(), feed("c"), held(), ends())[2:],
                         [said(2, "ab"), [-7], said(2, "ab"), said(0, "ab")])

    def test_it_changes_nothing(self):
        calls = [secret(1, "abcd"), secret(3, "bc"), feed("xa"), feed("bc"), feed(""), feed("d6"), secret(1, "x"),
                 feed("263"), feed("ab"), ends(), secret(8, "wxyz"), feed("d3h5"), whole("abcd"), spell(15, "abcd"),
                 feed("y" * 297), begins(), feed("abcd"), ends()]
        self.assertEqual(ask_between(calls, held()), ask(*calls))


if __name__ == "__main__":
    unittest.main()
