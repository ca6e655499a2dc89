"""Objects: units whose code is cells, with holes for what is not known yet."""

from onebase.codes import instruction, sense_in, size_of
from onebase.errors import BadObject, BadUnit
from onebase.kinds import is_cell, is_one_of, is_tagged, is_word, same
from onebase.rows import ROWS
from onebase.units import is_unit

# Rows of these words lead nowhere: their sense is the row itself.
PLAIN = ("set", "copy", "plus", "less", "ask", "show", "alike", "leap", "return", "stop", "fail")

# An instruction of a plain word has no more cells than this.
MOST_PLAIN_CELLS = 4


def assembled(unit):
    """BadUnit; the object of the unit."""
    if not is_unit(unit):
        raise BadUnit("no unit")
    return object_from(unit)


def object_from(unit):
    _, name, spares, starts, pieces = unit
    return ("object", name, spares, starts, tuple([chunk_of(piece) for piece in pieces]))


def chunk_of(piece):
    body = piece[5]
    if piece[2] == "code":
        items = []
        for row in body:
            items.extend(items_of(row))
        body = tuple(items)
    return piece[1:5] + (body,)


def items_of(row):
    """The cells, or the hole, of a row."""
    word = row[0]
    if word in PLAIN:
        return list(instruction(row, size_of(ROWS[word])))
    if word == "goto":
        return [("branch", word, None, ("row", row[1]))]
    if word == "if":
        return [("branch", word, row[1], ("row", row[2]))]
    if word == "try":
        return [("branch", word, row[2], ("name", row[1]))]
    if word in ("call", "jump"):
        return [("branch", word, None, ("name", row[1]))]
    if word in ("load", "store"):
        return [("near", word, (row[1],), row[2], row[3])]
    return [("near", word, (row[1],) + row[3:], row[2], 0)]


def unit_of(thing):
    """BadObject; the unit of which any value is the object."""
    unit = unit_in(thing)
    if unit is None:
        raise BadObject("no object")
    return unit


def is_object(thing):
    """Whether any value is the object of a unit."""
    return unit_in(thing) is not None


def unit_in(thing):
    """The unit of which any value is the object, None if it is none of any."""
    if not is_tagged(thing, "object", 5) or not isinstance(thing[4], tuple):
        return None
    pieces = []
    for chunk in thing[4]:
        if not isinstance(chunk, tuple) or len(chunk) != 5:
            return None
        pieces.append(("piece",) + chunk[:4] + (body_in(chunk),))
    unit = ("unit",) + thing[1:4] + (tuple(pieces),)
    # What was read back may be told otherwise, a cell as True or a hole for
    # a plain row: only what the unit is assembled to is its object.
    if is_unit(unit) and same(object_from(unit), thing):
        return unit
    return None


def body_in(chunk):
    """The body that a chunk tells, of no right form if the chunk has none."""
    if not is_word(chunk[1], "code") or not isinstance(chunk[4], tuple):
        return chunk[4]
    items = chunk[4]
    rows = []
    at = 0
    while at < len(items):
        row, many = row_in(items, at)
        if row is None:
            return None
        rows.append(row)
        at += many
    return tuple(rows)


def row_in(items, at):
    """The row that begins at an item, None if none does, and how many items it has."""
    if isinstance(items[at], tuple):
        return row_in_hole(items[at]), 1
    cells = []
    for item in items[at:at + MOST_PLAIN_CELLS]:
        if not is_cell(item):
            break
        cells.append(item)
    here = sense_in(cells, 0) if cells else None
    if here is None or here[0][0] not in PLAIN:
        return None, 0
    return here


def row_in_hole(hole):
    if is_tagged(hole, "branch", 4) and isinstance(hole[3], tuple) and len(hole[3]) == 2:
        _, word, also, (_, aim) = hole
        if is_word(word, "if"):
            return (word, also, aim)
        if is_word(word, "try"):
            return (word, aim, also)
        return (word, aim)
    if is_tagged(hole, "near", 5) and isinstance(hole[2], tuple) and hole[2]:
        _, word, cells, x, k = hole
        if is_one_of(word, ("load", "store")):
            return (word, cells[0], x, k)
        return (word, cells[0], x) + cells[1:]
    return None
