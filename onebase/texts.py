"""Texts of units: read, written, finished, and where in them a thing stands."""

from onebase.errors import BadIndex, BadPiece, BadRows, BadText, BadUnit
from onebase.kinds import within
from onebase.readings import Reading, is_text, part_word
from onebase.units import asked_in, faults_in, is_unit, own_pieces
from onebase.words import is_name

# How many numbers, names or nones a row of a body has.
NUMBERS_IN_ROW = 16
ITEMS_IN_ROW = 8


def read_text(text):
    """BadText, BadRows at a wrong row; what was read of the text."""
    if not is_text(text):
        raise BadText("no text")
    reading = Reading()
    for at, row in enumerate(text.split("\n")):
        if not reading.take(row.split(), at):
            raise BadRows(at)
    return reading


def read_whole(text):
    """As read_text; BadRows also if rows are missing."""
    reading = read_text(text)
    if not reading.is_whole():
        raise BadRows(len(text.split("\n")))
    return reading


def read_unit(text):
    """BadText, BadRows; the unit that the text tells."""
    return read_whole(text).unit()


def unit_text(unit):
    """BadUnit; the text of the unit, without labels and rows without words."""
    if not is_unit(unit):
        raise BadUnit("no unit")
    _, name, spares, starts, pieces = unit
    rows = ["unit " + name]
    if spares:
        rows.append("spare " + " ".join(spares))
    if starts:
        rows.append("start " + " ".join(starts))
    for piece in pieces:
        rows.extend(piece_rows(piece))
    return "\n".join(rows)


def piece_rows(piece):
    """The rows of the text of a piece."""
    _, name, sort, reach, force, body = piece
    head = sort + " " + name + " " + reach
    if sort == "room":
        return [head + " " + str(body)]
    if force == "weak":
        head = head + " weak"
    if sort == "code":
        return [head] + [" ".join([part_word(part) for part in row]) for row in body]
    many = ITEMS_IN_ROW if sort == "table" else NUMBERS_IN_ROW
    words = [part_word(part) for part in body]
    return [head] + [" ".join(words[at:at + many]) for at in range(0, len(words), many)]


def finished(text):
    """BadText, BadRows at a wrong row; a text of a unit that begins with these rows."""
    reading = read_text(text)
    return "\n".join([text] + reading.missing())


def row_at(text, piece, n):
    """The errors of read_unit, BadPiece, BadIndex; the text's row in which a thing stands."""
    reading = read_whole(text)
    if not is_name(piece) or piece not in reading.spots:
        raise BadPiece("no piece of the unit")
    spots = reading.spots[piece]
    if not within(n, 0, len(spots) - 1):
        raise BadIndex("the body has none of this number")
    return spots[n]


def fault_rows(text):
    """The errors of read_unit; pairs (row of the text, fault) of the unit's faults."""
    reading = read_whole(text)
    found = []
    unit = reading.unit()
    for fault in faults_in(unit, asked_in(unit), own_pieces(unit)):
        _, _, piece, at = fault
        found.append((reading.spots[piece][at], fault))
    return tuple(found)
