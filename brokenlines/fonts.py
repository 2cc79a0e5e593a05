"""Fonts: a font's text read row by row, and what it tells of letters."""

from brokenlines.errors import WrongFont

MOST_BYTES = 1048576
MOST_ROWS = 65536
MOST_LETTERS = 4096
MOST_STROKES = 1024
SIGNS = "abcdefghijklmnopqrstuvwxyz0123456789_- \n"
NAME_SIGNS = "abcdefghijklmnopqrstuvwxyz0123456789_"
STROKE_WORDS = {"move": 3, "line": 3, "curve": 5}


class Font:
    def __init__(self):
        self.units = 1
        self.up = 0
        self.down = 0
        self.gap = 0
        self.rooms = []
        self.chars = {}
        self.pairs = {}
        self.joins = {}
        self.bases = {}
        self.marks = {}

    def letter_for(self, code):
        return self.chars.get(code, 0)

    # A letter that is a mark itself bears no marks, even if it has a base.
    def bears(self, base, letter):
        if letter not in self.marks or base in self.marks:
            return False
        return (base, self.marks[letter][0]) in self.bases


# A font at a size: all that it answers is in steps.
class Face:
    def __init__(self, font, size):
        self.font = font
        self.size = size

    def scaled(self, number):
        units = self.font.units
        return (2 * number * self.size + units) // (2 * units)

    def room_of(self, letter):
        return self.scaled(self.font.rooms[letter])

    def pair_of(self, first, second):
        number = self.font.pairs.get((first, second))
        return 0 if number is None else self.scaled(number)

    # How far a mark stands to the right of its letter's place, and how far up.
    def offset_of(self, base, letter):
        mark = self.font.marks[letter]
        spot = self.font.bases[(base, mark[0])]
        return (self.scaled(spot[0]) - self.scaled(mark[1]), self.scaled(spot[1]) - self.scaled(mark[2]))


# None for a word that is no such number. Long words are left out first, for no number here has many digits.
def whole(word, low, high):
    digits = word[1:] if word.startswith("-") else word
    if not digits.isdigit() or len(digits) > 7:
        return None
    if digits.startswith("0") and word != "0":
        return None
    value = int(word)
    return value if low <= value <= high else None


def wholes(words, low, high):
    values = [whole(word, low, high) for word in words]
    return None if None in values else values


def is_name(word):
    if len(word) < 1 or len(word) > 31 or not word[0].islower():
        return False
    return all([sign in NAME_SIGNS for sign in word])


class FontReader:
    def __init__(self):
        self.font = Font()
        self.names = {}
        self.strokes = 0

    # Whether the row is as it should be; what it tells is taken if so.
    def take_row(self, words, is_first):
        if is_first:
            return self.take_head(words)
        kind = words[0]
        if kind in STROKE_WORDS:
            return self.take_stroke(words)
        if kind == "letter":
            return self.take_letter(words)
        if kind == "char":
            return self.take_char(words)
        if kind == "pair":
            return self.take_pair(words)
        if kind == "join":
            return self.take_join(words)
        if kind == "base":
            return self.take_base(words)
        if kind == "mark":
            return self.take_mark(words)
        return False

    def take_head(self, words):
        if len(words) != 5 or words[0] != "font":
            return False
        units = whole(words[1], 1, 16384)
        heights = wholes(words[2:], 0, 32767)
        if units is None or heights is None:
            return False
        font = self.font
        font.units = units
        font.up = heights[0]
        font.down = heights[1]
        font.gap = heights[2]
        return True

    def take_letter(self, words):
        if len(words) != 3 or not is_name(words[1]) or words[1] in self.names:
            return False
        room = whole(words[2], 0, 32767)
        if room is None or len(self.font.rooms) == MOST_LETTERS:
            return False
        self.names[words[1]] = len(self.font.rooms)
        self.font.rooms.append(room)
        self.strokes = 0
        return True

    # Outlines are not asked for here, but a font with wrong ones is wrong.
    def take_stroke(self, words):
        if len(words) != STROKE_WORDS[words[0]] or wholes(words[1:], -32768, 32767) is None:
            return False
        if not self.font.rooms or self.strokes == MOST_STROKES:
            return False
        if words[0] != "move" and self.strokes == 0:
            return False
        self.strokes += 1
        return True

    def take_char(self, words):
        if len(words) != 3 or words[2] not in self.names:
            return False
        code = whole(words[1], 0, 1114111)
        if code is None or 55296 <= code <= 57343 or code in self.font.chars:
            return False
        self.font.chars[code] = self.names[words[2]]
        return True

    def take_pair(self, words):
        if len(words) != 4 or words[1] not in self.names or words[2] not in self.names:
            return False
        two = (self.names[words[1]], self.names[words[2]])
        number = whole(words[3], -32768, 32767)
        if number is None or two in self.font.pairs:
            return False
        self.font.pairs[two] = number
        return True

    def take_join(self, words):
        if len(words) != 4 or not all([word in self.names for word in words[1:]]):
            return False
        two = (self.names[words[1]], self.names[words[2]])
        if two in self.font.joins:
            return False
        self.font.joins[two] = self.names[words[3]]
        return True

    def take_base(self, words):
        spot = self.spot_of(words)
        if spot is None or (self.names[words[1]], spot[0]) in self.font.bases:
            return False
        self.font.bases[(self.names[words[1]], spot[0])] = (spot[1], spot[2])
        return True

    def take_mark(self, words):
        spot = self.spot_of(words)
        if spot is None or self.names[words[1]] in self.font.marks:
            return False
        self.font.marks[self.names[words[1]]] = spot
        return True

    # Kind, x and y of a base's or a mark's row; None if it isn't right.
    def spot_of(self, words):
        if len(words) != 5 or words[1] not in self.names:
            return None
        kind = whole(words[2], 0, 15)
        spot = wholes(words[3:], -32768, 32767)
        if kind is None or spot is None:
            return None
        return (kind, spot[0], spot[1])


# The rows, and behind them what is left behind the last 10. Signs that no right row has become question marks.
def rows_of(data):
    signs = dict([(ord(sign), sign) for sign in SIGNS])
    return "".join([signs.get(byte, "?") for byte in data]).split("\n")


def read_font(data, number):
    rows = rows_of(data)
    reader = FontReader()
    used = 0
    for index in range(len(rows) - 1):
        used += len(rows[index]) + 1
        if index == MOST_ROWS or used > MOST_BYTES or not reader.take_row(rows[index].split(" "), index == 0):
            raise WrongFont(number, index + 1)
    # A row without its 10, and the row behind the last of a font without letters, have the same number.
    if rows[-1] != "" or not reader.font.rooms:
        raise WrongFont(number, len(rows))
    return reader.font
