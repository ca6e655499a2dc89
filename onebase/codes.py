"""Instructions as cells, and their senses."""

from onebase.errors import BadCells, BadCode, BadIndex, BadSense
from onebase.kinds import are_cells, within

# By codes: the word, and a letter for each part. r a register, p a place
# register, c and k cells, f what a fail may tell, L a length, d a distance
# of one cell, D one of two.
FORMS = {
    1: ("set", "rc"), 2: ("copy", "rr"), 3: ("plus", "rr"), 4: ("less", "rr"),
    5: ("ask", "r"), 6: ("show", "r"), 7: ("load", "rD"), 8: ("store", "rD"),
    9: ("item", "rrLD"), 10: ("fill", "rrLD"), 11: ("take", "pD"), 12: ("pick", "prLD"),
    13: ("alike", "rpp"), 14: ("call", "d"), 15: ("call", "D"), 16: ("jump", "d"),
    17: ("jump", "D"), 18: ("if", "rd"), 19: ("if", "rD"), 20: ("leap", "p"),
    21: ("return", ""), 22: ("stop", ""), 23: ("fail", "f"),
    27: ("by load", "rkD"), 28: ("by store", "rkD"), 29: ("by item", "rrLD"),
    30: ("by fill", "rrLD"), 31: ("by take", "pD"), 32: ("by pick", "prLD"),
    35: ("by call", "D"), 37: ("by jump", "D"),
}

# The least and the greatest value that a part of a sense has.
LIMITS = {
    "r": (0, 3), "p": (0, 1), "c": (0, 63), "k": (0, 63), "f": (0, 62), "L": (1, 64),
    "d": (-32, 31), "D": (-2048, 2047),
}


def size_of(letters):
    return 1 + len(letters) + letters.count("D")


def instruction(sense, many):
    """BadSense; the instruction of so many cells that has this sense."""
    code = code_of(sense, many)
    if code is None:
        raise BadSense("no instruction of so many cells has this sense")
    cells = [code]
    for part, letter in zip(sense[1:], FORMS[code][1]):
        cells.extend(part_cells(part, letter))
    return tuple(cells)


def code_of(sense, many):
    if not isinstance(sense, tuple) or not sense or not isinstance(sense[0], str):
        return None
    for code, (word, letters) in FORMS.items():
        if word == sense[0] and within(many, size_of(letters), size_of(letters)):
            if len(sense) == 1 + len(letters) and are_parts(sense[1:], letters):
                return code
    return None


def are_parts(parts, letters):
    for part, letter in zip(parts, letters):
        low, high = LIMITS[letter]
        if not within(part, low, high):
            return False
    return True


def part_cells(part, letter):
    if letter == "D":
        return list(divmod(part % 4096, 64))
    return [part % 64]


def sense_at(cells, at):
    """BadCells, BadIndex; the pair (sense, many) of the instruction at the index, or None."""
    if not are_cells(cells):
        raise BadCells("no cells")
    if not within(at, 0, len(cells) - 1):
        raise BadIndex("no index of a cell")
    return sense_in(cells, at)


def sense_in(cells, at):
    """As sense_at, of cells and an index that are known to be right."""
    if cells[at] not in FORMS:
        return None
    word, letters = FORMS[cells[at]]
    many = size_of(letters)
    if at + many > len(cells):
        return None
    parts = []
    spot = at + 1
    for letter in letters:
        parts.append(part_at(cells, spot, letter))
        spot += size_of(letter) - 1
    if not are_parts(parts, letters):
        return None
    return ((word, *parts), many)


def part_at(cells, at, letter):
    if letter == "D":
        return (cells[at] * 64 + cells[at + 1] + 2048) % 4096 - 2048
    if letter == "d":
        return (cells[at] + 32) % 64 - 32
    if letter == "L" and cells[at] == 0:
        return 64
    return cells[at]


def parted(cells):
    """BadCells, BadCode; the triples (position, sense, many) of the instructions, in order."""
    if not are_cells(cells):
        raise BadCells("no cells")
    found = []
    at = 0
    while at < len(cells):
        here = sense_in(cells, at)
        if here is None:
            raise BadCode(at)
        sense, many = here
        found.append((at, sense, many))
        at += many
    return tuple(found)
