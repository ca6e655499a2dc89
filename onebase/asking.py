"""What objects define and what they lead to."""

from onebase.errors import BadObject
from onebase.parts import part_in, worth_of


def defined(thing):
    """BadObject; the ascending (name, sort, length, gives) of all that the object defines."""
    found = []
    for piece in part_of(thing).shown():
        sort, many = worth_of(piece)
        found.append((piece[1], sort, many, piece[4] == "strong"))
    return tuple(sorted(found))


def led(thing):
    """BadObject; the ascending (name, spare) of all that the object leads to."""
    spares = part_of(thing).spares()
    return tuple([(x, spares[x]) for x in sorted(spares)])


def part_of(thing):
    """BadObject; the object taken apart."""
    part = part_in(thing)
    if part is None:
        raise BadObject("no object")
    return part
