"""One house: its secrets, the text that comes piece by piece, and what is shown of it."""

BEGINS = 0
SECRET = 1
FEED = 2
ENDS = 3
HELD = 4
SPELL = 5
ALL = 6

STAR = 42
MOST_SECRETS = 5
MOST_SECRET_BYTES = 12
MOST_TEXT_BYTES = 300
LEAST_INNER_SIGNS = 4

SMALL_SIXTEENS = "0123456789abcdef"
LARGE_SIXTEENS = "0123456789ABCDEF"
SIX_SIGNS = "ABCDEFGHIJKLMNOPQRSTUVWXYZabcdefghijklmnopqrstuvwxyz0123456789+/"


class NoSuchCall(ValueError):
    pass


def is_secret(row):
    return 1 <= len(row) <= MOST_SECRET_BYTES and STAR not in row


def may_be_spelled(which, row):
    return 1 <= which <= 15 and is_secret(row)


def in_sixteens(row, signs):
    spelling = []
    for byte in row:
        spelling.append(ord(signs[byte // 16]))
        spelling.append(ord(signs[byte % 16]))
    return spelling


def bits_of(row):
    bits = []
    for byte in row:
        for shift in range(7, -1, -1):
            bits.append((byte >> shift) & 1)
    return bits


def sixes_of(bits):
    signs = []
    for start in range(0, len(bits) - 5, 6):
        number = 0
        for bit in bits[start:start + 6]:
            number = number * 2 + bit
        signs.append(ord(SIX_SIGNS[number]))
    return signs


def inner_rows(row):
    bits = bits_of(row)
    # A secret stands in base 64 behind 0, 1 or 2 bytes of a group of three; in the last two cases
    # its first four or two bits share a sign with what stands before.
    rows = [sixes_of(bits), sixes_of(bits[4:]), sixes_of(bits[2:])]
    return [signs for signs in rows if len(signs) >= LEAST_INNER_SIGNS]


def spellings_of(which, row):
    spellings = []
    if which & 1:
        spellings.append(list(row))
    if which & 2:
        spellings.append(in_sixteens(row, SMALL_SIXTEENS))
    if which & 4:
        spellings.append(in_sixteens(row, LARGE_SIXTEENS))
    if which & 8:
        spellings.extend(inner_rows(row))
    return spellings


def covered_places(text, spellings):
    covered = [False] * len(text)
    for spelling in spellings:
        size = len(spelling)
        for start in range(len(text) - size + 1):
            if text[start:start + size] == spelling:
                for place in range(start, start + size):
                    covered[place] = True
    return covered


def begins_longer(row, spellings):
    for spelling in spellings:
        if len(spelling) > len(row) and spelling[:len(row)] == row:
            return True
    return False


def first_begun(text, spellings):
    for start in range(len(text)):
        if begins_longer(text[start:], spellings):
            return start
    return len(text)


def first_unsettled(text, spellings, covered):
    # The longest end that begins a spelling holds all shorter ones, so it alone is asked for.
    for place in range(first_begun(text, spellings), len(text)):
        if not covered[place]:
            return place
    return len(text)


def shown_between(text, covered, start, stop):
    shown = []
    for place in range(start, stop):
        if not covered[place]:
            shown.append(text[place])
        elif place == 0 or not covered[place - 1]:
            # Only a row's first byte brings the stars: the row may go on from an earlier piece.
            shown.extend([STAR, STAR, STAR])
    return shown


class House:
    def __init__(self):
        self.begins()

    def begins(self):
        self.secrets = 0
        self.spellings = []
        self.begin_text()
        return [0]

    def begin_text(self):
        self.text = []
        self.settled = 0

    def secret(self, which, row):
        if not may_be_spelled(which, row):
            return [-1]
        if len(self.text) > 0:
            return [-3]
        # Secrets are counted apart from spellings: a short one may have no spelling at all.
        if self.secrets == MOST_SECRETS:
            return [-7]
        spellings = spellings_of(which, row)
        self.secrets += 1
        self.spellings.extend(spellings)
        return [len(spellings)]

    def feed(self, piece):
        if len(self.text) + len(piece) > MOST_TEXT_BYTES:
            return [-7]
        self.text.extend(piece)
        covered = covered_places(self.text, self.spellings)
        # What is settled stays so, covered or not; so what was shown never has to be taken back.
        settled = first_unsettled(self.text, self.spellings, covered)
        shown = shown_between(self.text, covered, self.settled, settled)
        self.settled = settled
        return [len(self.text) - settled] + shown

    def ends(self):
        covered = covered_places(self.text, self.spellings)
        shown = shown_between(self.text, covered, self.settled, len(self.text))
        self.begin_text()
        return [covered.count(True)] + shown

    def held(self):
        rest = self.text[self.settled:]
        return [len(rest)] + rest

    def spell(self, which, row):
        if not may_be_spelled(which, row):
            return [-1]
        spellings = spellings_of(which, row)
        answer = [len(spellings)]
        for spelling in spellings:
            answer.append(len(spelling))
            answer.extend(spelling)
        return answer

    def whole(self, text):
        if len(text) > MOST_TEXT_BYTES:
            return [-7]
        covered = covered_places(text, self.spellings)
        return [len(text)] + shown_between(text, covered, 0, len(text))


def row_at(calls, place):
    return calls[place + 1:place + 1 + calls[place]]


def answer_at(house, calls, place):
    call = calls[place]
    if call == BEGINS:
        return house.begins()
    if call == SECRET:
        return house.secret(calls[place + 1], row_at(calls, place + 2))
    if call == FEED:
        return house.feed(row_at(calls, place + 1))
    if call == ENDS:
        return house.ends()
    if call == HELD:
        return house.held()
    if call == SPELL:
        return house.spell(calls[place + 1], row_at(calls, place + 2))
    if call == ALL:
        return house.whole(row_at(calls, place + 1))
    raise NoSuchCall(call)


def place_behind(calls, place):
    if calls[place] in (SECRET, SPELL):
        return place + 3 + calls[place + 2]
    if calls[place] in (FEED, ALL):
        return place + 2 + calls[place + 1]
    return place + 1


def answers(calls):
    house = House()
    given = []
    place = 0
    while place < len(calls):
        answer = answer_at(house, calls, place)
        given.append(len(answer))
        given.extend(answer)
        place = place_behind(calls, place)
    return given
