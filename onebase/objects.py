"""Objects: units whose code is cells, with holes for what is not known yet."""

from onebase.codes import instruction, size_of
from onebase.errors import BadObject, BadUnit
from onebase.kinds import is_number, is_tagged, is_word, within
from onebase.rows import LAST_WORDS, ROWS, has_body_form
from onebase.units import holds_together, is_head, is_unit
from onebase.words import is_name

# Rows of these words lead nowhere: their sense is the row itself.
PLAIN = ("set", "copy", "plus", "less", "ask", "show", "alike", "leap", "return", "stop", "fail")

# By their codes plain words, and the greatest values of their parts.
PLAIN_PARTS = {
    1: ("set", (3, 63)), 2: ("copy", (3, 3)), 3: ("plus", (3, 3)), 4: ("less", (3, 3)),
    5: ("ask", (3,)), 6: ("show", (3,)), 13: ("alike", (3, 1, 1)), 20: ("leap", (1,)),
    21: ("return", ()), 22: ("stop", ()), 23: ("fail", (62,)),
}

# By the words of near holes the greatest values of their cells, and of k.
NEAR_PARTS = {
    "load": ((3,), 63), "store": ((3,), 63), "item": ((3, 3), 0), "fill": ((3, 3), 0),
    "take": ((1,), 0), "pick": ((1, 3), 0),
}


def assembled(unit):
    """BadUnit; the object of the unit."""
    if not is_unit(unit):
        raise BadUnit("no unit")
    return object_from(unit)


def object_from(unit):
    _, name, spares, starts, pieces = unit
    return ("object", name, spares, starts, tuple([chunk_of(piece) for piece in pieces]))


def chunk_of(piece):
    body = piece[5]
    if piece[2] == "code":
        items = []
        for row in body:
            items.extend(items_of(row))
        body = tuple(items)
    return piece[1:5] + (body,)


def items_of(row):
    """The cells, or the hole, of a row."""
    word = row[0]
    if word in PLAIN:
        return list(instruction(row, size_of(ROWS[word])))
    if word == "goto":
        return [("branch", word, None, ("row", row[1]))]
    if word == "if":
        return [("branch", word, row[1], ("row", row[2]))]
    if word == "try":
        return [("branch", word, row[2], ("name", row[1]))]
    if word in ("call", "jump"):
        return [("branch", word, None, ("name", row[1]))]
    if word in ("load", "store"):
        return [("near", word, (row[1],), row[2], row[3])]
    return [("near", word, (row[1],) + row[3:], row[2], 0)]


def unit_of(thing):
    """BadObject; the unit of which any value is the object."""
    unit = unit_in(thing)
    if unit is None:
        raise BadObject("no object")
    return unit


def is_object(thing):
    """Whether any value is the object of a unit."""
    return unit_in(thing) is not None


def unit_in(thing):
    """The unit of which any value is the object, None if it is none of any."""
    if not is_tagged(thing, "object", 5) or not isinstance(thing[4], tuple):
        return None
    pieces = []
    for chunk in thing[4]:
        piece = piece_in(chunk)
        if piece is None:
            return None
        pieces.append(piece)
    unit = ("unit", thing[1], thing[2], thing[3], tuple(pieces))
    if holds_together(unit):
        return unit
    return None


def piece_in(chunk):
    """The piece of which any value is the chunk, None if it is none of any."""
    if not isinstance(chunk, tuple) or len(chunk) != 5:
        return None
    name, sort, reach, force, body = chunk
    if not is_head(name, sort, reach, force):
        return None
    if sort == "code":
        body = rows_in(body)
        if body is None:
            return None
    elif not has_body_form(sort, body, is_name):
        return None
    return ("piece", name, sort, reach, force, body)


def rows_in(items):
    """The rows of code of which any value has the items, None if it is none of any."""
    if not isinstance(items, tuple):
        return None
    rows = []
    at = 0
    while at < len(items):
        if isinstance(items[at], tuple):
            row = row_in_hole(items[at])
            at += 1
        else:
            row = plain_row(items, at)
            # A plain row has as many parts as its instruction has cells.
            at += 0 if row is None else len(row)
        if row is None:
            return None
        rows.append(row)
    if not 1 <= len(rows) <= 40 or rows[-1][0] not in LAST_WORDS or not lead_within(rows):
        return None
    return tuple(rows)


def lead_within(rows):
    """Whether all numbers of rows that rows tell are those of rows."""
    many = len(rows)
    for row in rows:
        if row[0] in ("if", "goto", "try") and not 0 <= row[-1] < many:
            return False
    return True


def plain_row(items, at):
    """The plain row that begins at an item, None if none does."""
    code = items[at]
    if not is_number(code) or code not in PLAIN_PARTS:
        return None
    word, greatest = PLAIN_PARTS[code]
    parts = items[at + 1:at + 1 + len(greatest)]
    if len(parts) < len(greatest):
        return None
    for part, high in zip(parts, greatest):
        if not isinstance(part, int) or isinstance(part, bool) or not 0 <= part <= high:
            return None
    return (word,) + parts


def row_in_hole(hole):
    """The row of which a tuple is the hole, None if it is none of any.

    Whether there is a row of the number that it tells is not asked yet.
    """
    if len(hole) == 4:
        tag, word, also, target = hole
        if isinstance(tag, str) and tag == "branch" and isinstance(word, str):
            return branch_row(word, also, target)
    elif len(hole) == 5:
        tag, word, cells, x, k = hole
        if isinstance(tag, str) and tag == "near" and isinstance(word, str):
            return near_row(word, cells, x, k)
    return None


def branch_row(word, also, target):
    if not isinstance(target, tuple) or len(target) != 2:
        return None
    kind, aim = target
    if is_word(kind, "name") and is_name(aim):
        if word == "call" or word == "jump":
            return (word, aim) if also is None else None
        return (word, aim, also) if word == "try" and is_number(also) else None
    if is_word(kind, "row") and is_number(aim):
        if word == "goto":
            return (word, aim) if also is None else None
        return (word, also, aim) if word == "if" and within(also, 0, 3) else None
    return None


def near_row(word, cells, x, k):
    if word not in NEAR_PARTS or not isinstance(cells, tuple) or not is_name(x):
        return None
    greatest, most = NEAR_PARTS[word]
    if len(cells) != len(greatest) or not within(k, 0, most):
        return None
    for cell, high in zip(cells, greatest):
        if not within(cell, 0, high):
            return None
    # Only load and store tell a k of their own.
    row = (word, cells[0], x)
    return row + (k,) if most > 0 else row + cells[1:]
