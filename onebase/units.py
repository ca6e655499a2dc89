"""Units, their pieces and rows; what pieces lead to, and faults within a unit."""

from onebase.errors import BadPiece, BadUnit
from onebase.kinds import are_different, is_one_of, is_rising, is_tagged, is_tuple_of
from onebase.rows import SORTS, asks, has_body_form, has_row_form, length, reaches, suits
from onebase.words import is_name


def is_row(thing, many):
    """Whether any value is a row of code of so many rows."""
    return has_row_form(thing, many, is_name)


def is_piece(thing):
    """Whether any value is a piece."""
    if not is_tagged(thing, "piece", 6):
        return False
    _, name, sort, reach, force, body = thing
    if not is_name(name) or not is_one_of(sort, SORTS):
        return False
    if not is_one_of(reach, ("own", "hidden", "open")) or not is_one_of(force, ("strong", "weak")):
        return False
    if force == "weak" and (reach == "own" or sort == "room"):
        return False
    return has_body_form(sort, body, is_name)


def is_unit(thing):
    """Whether any value is a unit."""
    if not is_tagged(thing, "unit", 5):
        return False
    _, name, spares, starts, pieces = thing
    if not is_name(name) or not is_tuple_of(spares, is_name) or not is_tuple_of(starts, is_name):
        return False
    if not is_tuple_of(pieces, is_piece) or not 1 <= len(pieces) <= 24:
        return False
    names = [piece[1] for piece in pieces]
    if not are_different(names) or not is_rising(spares):
        return False
    return not any(x in names for x in spares) and are_starts(starts, pieces)


def are_starts(names, pieces):
    startable = {piece[1]: True for piece in pieces if piece[2] == "code" and piece[3] == "own"}
    if not all(x in startable for x in names):
        return False
    for piece in pieces:
        for _, word, x, _ in asks(piece[2], piece[5]):
            if word in ("take", "item of") and x in names:
                return False
    return True


def uses(piece):
    """BadPiece; the ascending triples (name, word, k) of all that the piece leads to."""
    if not is_piece(piece):
        raise BadPiece("no piece")
    found = {(x, word, k): True for _, word, x, k in asks(piece[2], piece[5])}
    return tuple(sorted(found))


def unit_faults(unit):
    """BadUnit; the faults of the unit, by pieces, then rows or items."""
    if not is_unit(unit):
        raise BadUnit("no unit")
    own = {piece[1]: piece for piece in unit[4] if piece[3] == "own"}
    faults = []
    for piece in unit[4]:
        for at, word, x, k in asks(piece[2], piece[5]):
            fault = fault_of(word, x, k, unit[2], own)
            if fault is not None:
                faults.append((fault, x, piece[1], at))
    return tuple(faults)


def fault_of(word, x, k, spares, own):
    if x in spares and word not in ("call", "try", "jump", "take"):
        return "spare"
    if x not in own:
        return None
    piece = own[x]
    if not suits(word, piece[2]):
        return "sort"
    if not reaches(word, k, length(piece[2], piece[5])):
        return "short"
    return None
