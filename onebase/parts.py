"""Objects taken apart: what each defines, leads to and asks, told once."""

from onebase.objects import unit_in
from onebase.rows import length
from onebase.units import asked_in, faults_in, own_pieces

# How lines and cards call the sorts of pieces.
LINE_SORTS = {"code": "code", "table": "table", "const": "cells", "data": "data", "room": "data"}


class Part:
    """An object and its unit; asked tells for each piece, in order, what it asks."""

    def __init__(self, made, unit):
        self.made = made
        self.unit = unit
        self.own = own_pieces(unit)
        self.asked = asked_in(unit)

    def is_sound(self):
        return not faults_in(self.unit, self.asked, self.own)

    def shown(self):
        """The pieces that are not own, in order."""
        return [piece for piece in self.unit[4] if piece[3] != "own"]

    def gives(self):
        """The names that the object gives."""
        return [piece[1] for piece in self.shown() if piece[4] == "strong"]

    def spares(self):
        """By the names that the object leads to, whether each is a spare."""
        found = {}
        for held in self.asked:
            for _, _, x, _ in held:
                if x not in self.own:
                    found[x] = x in self.unit[2]
        return found

    def wants(self):
        """The names that the object wants."""
        return [x for x, spare in self.spares().items() if not spare]


def part_in(thing):
    """Any value taken apart, None if it is no object."""
    unit = unit_in(thing)
    if unit is None:
        return None
    return Part(thing, unit)


def worth_of(piece):
    """The sort of a piece as cards call it, and its length."""
    return LINE_SORTS[piece[2]], length(piece[2], piece[5])
