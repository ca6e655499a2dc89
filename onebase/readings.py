"""Rows of texts of units, read one after another, each refused where it is wrong.

A row is right if, behind the rows ahead of it, further rows can make a text
of a unit: so what rows that are still to come must have is counted, too.
"""

from onebase.rows import GREATEST, LAST_WORDS, ROWS, SORTS
from onebase.words import is_name

MOST_PIECES = 24
MOST_ROWS = 40
LETTERS = "abcdefghijklmnopqrstuvwxyz"

# How many items or cells the bodies have at most that are written in rows of words.
MOST_PARTS = {"data": 64, "const": 64, "table": 16}


def is_text(thing):
    return isinstance(thing, str) and all(
        sign == "\n" or " " <= sign <= "~" for sign in thing)


def part_word(part):
    """How a part of a row, or an item, is written."""
    if part is None:
        return "none"
    return part if isinstance(part, str) else str(part)


def number_in(word, low, high):
    """The number that is written so, None if it is none or not between low and high."""
    # No number has more than two figures; more are not even read.
    if not word or len(word) > 2 or not all("0" <= sign <= "9" for sign in word):
        return None
    if len(word) > 1 and word[0] == "0" or not low <= int(word) <= high:
        return None
    return int(word)


def code_row(words):
    """The row that is told by these words, a label where one stands for n; or None."""
    if not words or words[0] not in ROWS or len(words) != 1 + len(ROWS[words[0]]):
        return None
    row = [words[0]]
    for word, letter in zip(words[1:], ROWS[words[0]]):
        part = row_part(word, letter)
        if part is None:
            return None
        row.append(part)
    return tuple(row)


def row_part(word, letter):
    if letter == "x" or letter == "n" and is_name(word):
        return word if is_name(word) else None
    return number_in(word, 0, MOST_ROWS - 1 if letter == "n" else GREATEST[letter])


def aim_of(row):
    """The number or label of the row to which a row goes on, None if it tells none."""
    return row[-1] if "n" in ROWS[row[0]] else None


class PieceReading:
    """A piece so far: its head, its body, and what the body still asks for."""

    def __init__(self, name, sort, reach, force):
        self.name = name
        self.kind = sort
        self.reach = reach
        self.force = force
        self.body = []
        self.labels = {}
        self.asked = {}
        self.many = 0

    def lacking(self):
        """How many rows with words the piece lacks at least."""
        if self.kind == "room":
            return 0
        if self.kind != "code":
            return 0 if self.body else 1
        ends = self.body and self.body[-1][0] in LAST_WORDS
        return max(len(self.asked), self.many - len(self.body), 0 if ends else 1)

    def take_row(self, words):
        """Takes a row of code; whether it may stand here."""
        label = None
        if words[0].endswith(":"):
            label = words[0][:-1]
            words = words[1:]
            if not is_name(label) or label in self.labels:
                return False
        row = code_row(words)
        if row is None:
            return False
        if label is not None:
            self.labels[label] = len(self.body)
            self.asked.pop(label, None)
        self.body.append(row)
        aim = aim_of(row)
        if isinstance(aim, str):
            if aim not in self.labels:
                self.asked[aim] = True
        elif aim is not None:
            self.many = max(self.many, aim + 1)
        return len(self.body) + self.lacking() <= MOST_ROWS

    def take_parts(self, words):
        """Takes a row of numbers, or of names and nones; whether it may stand here."""
        for word in words:
            if self.kind == "table":
                if word != "none" and not is_name(word):
                    return False
                self.body.append(None if word == "none" else word)
            else:
                cell = number_in(word, 0, GREATEST["c"])
                if cell is None:
                    return False
                self.body.append(cell)
        return len(self.body) <= MOST_PARTS[self.kind]

    def missing(self):
        """As few rows as can be that make the body whole."""
        many = self.lacking()
        if self.kind != "code":
            return ["none" if self.kind == "table" else "0"] * many
        labels = [label + ": " for label in self.asked]
        labels.extend([""] * (many - len(labels)))
        return [label + "stop" for label in labels]

    def piece(self):
        return ("piece", self.name, self.kind, self.reach, self.force, self.told_body())

    def told_body(self):
        if self.kind == "room":
            return self.many
        if self.kind == "code":
            return tuple([self.told_row(row) for row in self.body])
        return tuple(self.body)

    def told_row(self, row):
        aim = aim_of(row)
        return row[:-1] + (self.labels[aim],) if isinstance(aim, str) else row


class Reading:
    """What the rows so far tell. spots has, by pieces, where each part of a body stands."""

    def __init__(self):
        self.name = None
        self.spares = {}
        self.starts = []
        self.pieces = []
        self.spots = {}

    def take(self, words, at):
        """Takes the words of a row of this index; whether the row may stand here."""
        if not words:
            return True
        if self.name is None:
            return self.take_name(words)
        if words[0] in SORTS:
            return self.take_head(words, at)
        if not self.pieces:
            if words[0] == "spare":
                return self.take_spares(words[1:])
            return words[0] == "start" and self.take_starts(words[1:])
        return self.take_body(words, at)

    def take_name(self, words):
        if len(words) != 2 or words[0] != "unit" or not is_name(words[1]):
            return False
        self.name = words[1]
        return True

    def take_spares(self, names):
        if self.spares or self.starts or not names:
            return False
        self.spares = {x: True for x in names}
        return (all(is_name(x) for x in names)
                and all(x < behind for x, behind in zip(names, names[1:])))

    def take_starts(self, names):
        if self.starts or not names or not all(is_name(x) for x in names):
            return False
        self.starts = names
        return len(self.due()) <= MOST_PIECES and not any(x in self.spares for x in names)

    def due(self):
        """The starts for which there are no pieces yet, each once."""
        return list({x: True for x in self.starts if x not in self.spots})

    def take_head(self, words, at):
        if self.pieces and self.pieces[-1].lacking() > 0:
            return False
        piece = piece_reading(words)
        if piece is None or piece.name in self.spots or piece.name in self.spares:
            return False
        if piece.name in self.starts and (piece.kind != "code" or piece.reach != "own"):
            return False
        self.pieces.append(piece)
        self.spots[piece.name] = [at] * piece.many
        return len(self.pieces) + len(self.due()) <= MOST_PIECES

    def take_body(self, words, at):
        piece = self.pieces[-1]
        before = len(piece.body)
        if piece.kind == "room":
            return False
        if not (piece.take_row(words) if piece.kind == "code" else piece.take_parts(words)):
            return False
        self.spots[piece.name].extend([at] * (len(piece.body) - before))
        return not any(self.shows_start(piece, part) for part in piece.body[before:])

    def shows_start(self, piece, part):
        """Whether a row or an item leads to a start as none may."""
        if piece.kind == "table":
            return part in self.starts
        return piece.kind == "code" and part[0] == "take" and part[2] in self.starts

    def is_whole(self):
        return not self.missing()

    def missing(self):
        """As few rows as can be that make a text of a unit of the rows so far."""
        rows = [] if self.name is not None else ["unit a"]
        if self.pieces:
            rows.extend(self.pieces[-1].missing())
        for x in self.due():
            rows.extend(["code " + x + " own", "stop"])
        if not self.pieces and not self.starts:
            rows.append("room " + self.free_name() + " own 1")
        return rows

    def free_name(self):
        """A name that is no spare."""
        x = "a"
        while x in self.spares or not is_name(x):
            x = next_word(x)
        return x

    def unit(self):
        pieces = tuple([piece.piece() for piece in self.pieces])
        return ("unit", self.name, tuple(self.spares), tuple(self.starts), pieces)


def next_word(word):
    """The next one of all words: by how many letters they have, then by the alphabet."""
    at = LETTERS.index(word[-1]) + 1
    if at < len(LETTERS):
        return word[:-1] + LETTERS[at]
    return (next_word(word[:-1]) if len(word) > 1 else "a") + "a"


def piece_reading(words):
    """The piece whose head has these words, None if they are those of none."""
    if len(words) < 3 or not is_name(words[1]) or words[2] not in ("own", "hidden", "open"):
        return None
    piece = PieceReading(words[1], words[0], words[2], "strong")
    if words[0] == "room":
        many = number_in(words[3], 1, 64) if len(words) == 4 else None
        if many is None:
            return None
        piece.many = many
        return piece
    if len(words) == 3:
        return piece
    if len(words) != 4 or words[3] != "weak" or words[2] == "own":
        return None
    piece.force = "weak"
    return piece
