"""Lines in which all seven calls stand mixed."""

import random
import unittest

from helper import (PlainHouse, ask, begins, ends, feed, held, line, pieces_of, said, secret, shown_in, spell, spelled,
                    split, whole)
from starcover.house import answers

WRITTEN = {"begins": begins, "secret": secret, "feed": feed, "ends": ends, "held": held, "spell": spell, "whole": whole}
KINDS = ["feed"] * 12 + ["held"] * 4 + ["whole"] * 3 + ["spell"] * 2 + ["ends"] * 2 + ["secret", "begins"]


def secret_of(source):
    signs = source.choice((b"ab", b"abc", b"\x1a\xa1\x11\xaa", bytes(range(256))))
    text = bytes(source.choice(signs) for unused in range(source.choice((1, 2, 2, 3, 3, 4, 5, 12, 0, 13))))
    return source.choice((1, 1, 1, 3, 6, 7, 8, 9, 15, 0, 16)), text


def piece_of(source, house, most):
    """Spellings and parts of them one behind another, so that many are begun, cut off or overlap."""
    known = house.spellings() or [b"ab"]
    piece = b""
    for unused in range(source.randrange(most)):
        spelling = source.choice(known)
        start = source.choice((0, 0, source.randrange(len(spelling))))
        stop = source.choice((len(spelling), source.randrange(len(spelling) + 1)))
        piece += spelling[start:stop] + source.choice((b"", b"", b"x", b"*", b"a"))
    return piece[:320]


def handed_over(kind, source, house):
    if kind in ("secret", "spell"):
        return secret_of(source)
    if kind == "feed":
        return (piece_of(source, house, source.choice((5, 5, 5, 5, 40))),)
    if kind == "whole":
        return (piece_of(source, house, source.choice((5, 20, 150))),)
    return ()


def line_of(source):
    """The calls of one line, and what the document's words, by other means, answer to each."""
    house = PlainHouse()
    calls, expected = [], []
    told_first = source.choice((0, 3, 4, 4, 9))
    for place in range(source.choice((1, 7, 40, 40))):
        kind = "secret" if place < told_first else source.choice(KINDS)
        given = handed_over(kind, source, house)
        calls.append(WRITTEN[kind](*given))
        expected.append(getattr(house, kind)(*given))
    return calls, expected


class AgainstTheWords(unittest.TestCase):
    def test_many_lines(self):
        source = random.Random(20)
        answered = {}
        for number in range(300):
            calls, expected = line_of(source)
            self.assertEqual(split(answers(line(*calls))), expected, (number, calls))
            for call, answer in zip(calls, expected):
                answered.setdefault(call[0], set()).add(min(answer[0], 0))
        # The lines are worth their name only if each call and each refusal came up in them.
        self.assertEqual(answered, {0: {0}, 1: {0, -1, -3, -7}, 2: {0, -7}, 3: {0}, 4: {0}, 5: {0, -1}, 6: {0, -7}})


class InPieces(unittest.TestCase):
    def check(self, secrets, text, sizes):
        count, *shown = ask(*secrets, whole(text))[-1]
        self.assertEqual(count, len(text))
        self.assertEqual(shown_in(secrets, pieces_of(text, sizes))[0], bytes(shown), (secrets, text, sizes))

    def test_any_size_against_all_of_the_whole_text(self):
        source = random.Random(31)
        for unused in range(150):
            house = PlainHouse()
            secrets = []
            for which, text in [secret_of(source) for unused in range(5)]:
                secrets.append(secret(which, text))
                house.secret(which, text)
            text = piece_of(source, house, 60)[:300]
            for size in (9, 10, 17, 100, 299, 300):
                self.check(secrets, text, [size])
            # Small pieces of a text that is short enough for a line of 40 calls.
            for sizes in ([1], [2, 0, 1], [1, 1, 2]):
                self.check(secrets, text[:24], sizes)
            self.check(secrets, text, [source.randrange(8, 40) for unused in range(9)])


class Mixed(unittest.TestCase):
    def test_all_seven_in_one_line(self):
        parts = ask(held(), secret(3, "ab"), spell(3, "ab"), feed("xab6"), held(), whole("ab6"), feed("16"), held(),
                    feed("2"), held(), ends(), held(), begins(), whole("ab"), ends())
        self.assertEqual(parts, [
            [0], [2], spelled("ab", "6162"), said(1, "x***"), said(1, "6"), said(3, "***6"), [3], said(3, "616"),
            [0], [0], [6], [0], [0], said(2, "ab"), [0]])

    def test_40_calls(self):
        round_of_seven = [begins(), secret(1, "abc"), feed("xab"), held(), spell(1, "abc"), whole("abc"), ends()]
        answered = [[0], [1], said(2, "x"), said(2, "ab"), spelled("abc"), said(3, "***"), said(0, "ab")]
        self.assertEqual(ask(*(round_of_seven * 6)[:40]), (answered * 6)[:40])

    def test_40_calls_of_the_longest(self):
        self.assertEqual(ask(*[whole("y" * 320)] * 40), [[-7]] * 40)
        self.assertEqual(ask(*[whole("y" * 300)] * 40), [said(300, "y" * 300)] * 40)
        self.assertEqual(ask(*[spell(15, "y" * 20)] * 40), [[-1]] * 40)
        longest = [secret(15, "a" * 12)] * 5 + [feed("a" * 299), feed("6")] + [whole("61" * 150)] * 33
        self.assertEqual(ask(*longest), [[6]] * 5 + [said(0, "***"), [1]] + [said(300, "***")] * 33)


if __name__ == "__main__":
    unittest.main()
