"""How calls are written and answers read, and the document's words once more, written otherwise."""

import base64
import itertools

from starcover.house import answers


def row(text):
    return list(text.encode("latin-1")) if isinstance(text, str) else list(text)


def begins():
    return [0]


def secret(which, text):
    return [1, which, len(row(text))] + row(text)


def feed(text):
    return [2, len(row(text))] + row(text)


def ends():
    return [3]


def held():
    return [4]


def spell(which, text):
    return [5, which, len(row(text))] + row(text)


def whole(text):
    """The call that the document calls all."""
    return [6, len(row(text))] + row(text)


def line(*calls):
    return [number for call in calls for number in call]


def split(given):
    """The answers one by one, out of the one list in which they stand behind their lengths."""
    parts = []
    place = 0
    while place < len(given):
        size = given[place]
        part = given[place + 1:place + 1 + size]
        if size < 1 or len(part) != size:
            raise AssertionError(f"answer {len(parts)} has not the length that is told: {given}")
        parts.append(part)
        place += 1 + size
    return parts


def ask(*calls):
    parts = split(answers(line(*calls)))
    if len(parts) != len(calls):
        raise AssertionError(f"{len(calls)} calls, {len(parts)} answers")
    return parts


def last(*calls):
    return ask(*calls)[-1]


def said(number, text=""):
    return [number] + row(text)


def spelled(*spellings):
    """The answer of spell: how many, then each behind how many bytes it has."""
    return [len(spellings)] + [number for one in spellings for number in [len(row(one))] + row(one)]


def ask_between(calls, between):
    """What the calls answer with another call before, between and behind them all."""
    mixed = [between]
    for call in calls:
        mixed += [call, between]
    return ask(*mixed)[1::2]


def pieces_of(text, sizes):
    """The text cut by the sizes, which are gone through again and again."""
    pieces = []
    place = 0
    for size in itertools.cycle(sizes):
        if place >= len(text):
            return pieces
        pieces.append(text[place:place + size])
        place += size


def shown_in(secrets, pieces):
    """All that is shown of the pieces and their end, and how many bytes were covered."""
    parts = ask(*secrets, *[feed(piece) for piece in pieces], ends())
    shown = [byte for part in parts[len(secrets):] for byte in part[1:]]
    return bytes(shown), parts[-1][0]


# The document's words by other means: Python's own bytes and base 64, and trying out what may come.

def plain_inner_rows(text):
    found = []
    for before, lost, signs_lost in ((0, 0, 0), (1, 4, 2), (2, 2, 3)):
        signs = base64.b64encode(bytes(before) + text + bytes(3))
        count = (8 * len(text) - lost) // 6
        if count >= 4:
            found.append(signs[signs_lost:signs_lost + count])
    return found


def plain_spellings(which, text):
    found = []
    if which % 2 == 1:
        found.append(text)
    if which // 2 % 2 == 1:
        found.append(text.hex().encode())
    if which // 4 % 2 == 1:
        found.append(text.hex().upper().encode())
    if which // 8 % 2 == 1:
        found.extend(plain_inner_rows(text))
    return found


def plain_covered(text, spellings):
    places = set()
    for spelling in spellings:
        start = text.find(spelling)
        while start >= 0:
            places.update(range(start, start + len(spelling)))
            start = text.find(spelling, start + 1)
    return places


def plain_settled(text, spellings):
    """How many bytes stand before the first that is not covered and that something to come covers."""
    covered = plain_covered(text, spellings)
    could_be = set()
    for spelling in spellings:
        for begun in range(1, len(spelling)):
            could_be |= plain_covered(text + spelling[begun:], [spelling])
    return min([place for place in range(len(text)) if place in could_be - covered], default=len(text))


def plain_shown(text, covered):
    shown = b""
    for hidden, run in itertools.groupby(range(len(text)), lambda place: place in covered):
        shown += b"***" if hidden else bytes(text[place] for place in run)
    return shown


def plain_refused(which, text):
    return which not in range(1, 16) or len(text) not in range(1, 13) or b"*" in text


class PlainHouse:
    def __init__(self):
        self.begins()

    def begins(self):
        self.secrets = []
        self.text = b""
        self.before = b""
        return [0]

    def spellings(self):
        return [one for which, text in self.secrets for one in plain_spellings(which, text)]

    def secret(self, which, text):
        if plain_refused(which, text):
            return [-1]
        if self.text:
            return [-3]
        if len(self.secrets) == 5:
            return [-7]
        self.secrets.append((which, text))
        return [len(plain_spellings(which, text))]

    def news(self, shown):
        if not shown.startswith(self.before):
            raise AssertionError("what was shown is taken back")
        fresh = shown[len(self.before):]
        self.before = shown
        return list(fresh)

    def feed(self, text):
        if len(self.text) + len(text) > 300:
            return [-7]
        self.text += text
        count = plain_settled(self.text, self.spellings())
        covered = plain_covered(self.text, self.spellings())
        return [len(self.text) - count] + self.news(plain_shown(self.text[:count], covered))

    def ends(self):
        covered = plain_covered(self.text, self.spellings())
        answer = [len(covered)] + self.news(plain_shown(self.text, covered))
        self.text = b""
        self.before = b""
        return answer

    def held(self):
        rest = self.text[plain_settled(self.text, self.spellings()):]
        return said(len(rest), rest)

    def spell(self, which, text):
        return [-1] if plain_refused(which, text) else spelled(*plain_spellings(which, text))

    def whole(self, text):
        if len(text) > 300:
            return [-7]
        return said(len(text), plain_shown(text, plain_covered(text, self.spellings())))
