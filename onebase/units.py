"""Units, their pieces and rows; what pieces lead to, and faults within a unit."""

from onebase.errors import BadPiece, BadUnit
from onebase.kinds import is_one_of, is_rising, is_tagged, is_tuple_of
from onebase.rows import SORTS, asks, has_body_form, has_row_form, length, reaches, suits
from onebase.words import is_name


def is_row(thing, many):
    """Whether any value is a row of code of so many rows."""
    return has_row_form(thing, many, is_name)


def is_piece(thing):
    """Whether any value is a piece."""
    if not is_tagged(thing, "piece", 6):
        return False
    _, name, sort, reach, force, body = thing
    return is_head(name, sort, reach, force) and has_body_form(sort, body, is_name)


def is_head(name, sort, reach, force):
    """Whether any values are what a piece tells ahead of its body."""
    if not is_name(name) or not is_one_of(sort, SORTS):
        return False
    if not is_one_of(reach, ("own", "hidden", "open")) or not is_one_of(force, ("strong", "weak")):
        return False
    return force == "strong" or (reach != "own" and sort != "room")


def is_unit(thing):
    """Whether any value is a unit."""
    if not is_tagged(thing, "unit", 5) or not is_tuple_of(thing[4], is_piece):
        return False
    return holds_together(thing)


def holds_together(thing):
    """Whether what has the form and the pieces of a unit is one."""
    _, name, spares, starts, pieces = thing
    if not is_name(name) or not is_tuple_of(spares, is_name) or not is_tuple_of(starts, is_name):
        return False
    named = {piece[1]: piece for piece in pieces}
    if not 1 <= len(pieces) <= 24 or len(named) < len(pieces) or not is_rising(spares):
        return False
    for x in spares:
        if x in named:
            return False
    return not starts or are_starts(starts, named)


def are_starts(names, named):
    """Whether the unit with these pieces, by their names, may start with these."""
    for x in names:
        if x not in named or named[x][2] != "code" or named[x][3] != "own":
            return False
    for piece in list(named.values()):
        for _, word, x, _ in asks(piece[2], piece[5]):
            if word in ("take", "item of") and x in names:
                return False
    return True


def uses(piece):
    """BadPiece; the ascending triples (name, word, k) of all that the piece leads to."""
    if not is_piece(piece):
        raise BadPiece("no piece")
    found = {(x, word, k): True for _, word, x, k in asks(piece[2], piece[5])}
    return tuple(sorted(found))


def unit_faults(unit):
    """BadUnit; the faults of the unit, by pieces, then rows or items."""
    if not is_unit(unit):
        raise BadUnit("no unit")
    return faults_in(unit, asked_in(unit), own_pieces(unit))


def asked_in(unit):
    """For each piece of a unit, in order, what it asks."""
    return [asks(piece[2], piece[5]) for piece in unit[4]]


def own_pieces(unit):
    """The own pieces of a unit by their names."""
    return {piece[1]: piece for piece in unit[4] if piece[3] == "own"}


def faults_in(unit, asked, own):
    """As unit_faults, of a unit that is known to be right, what it asks and its own pieces."""
    spares = {x: True for x in unit[2]}
    faults = []
    for piece, held in zip(unit[4], asked):
        for at, word, x, k in held:
            if x in spares or x in own:
                fault = fault_of(word, x, k, spares, own)
                if fault is not None:
                    faults.append((fault, x, piece[1], at))
    return tuple(faults)


def fault_of(word, x, k, spares, own):
    if x in spares and word not in ("call", "try", "jump", "take"):
        return "spare"
    if x not in own:
        return None
    piece = own[x]
    if not suits(word, piece[2]):
        return "sort"
    if not reaches(word, k, length(piece[2], piece[5])):
        return "short"
    return None
