"""What objects define and what they lead to."""

from onebase.objects import unit_of
from onebase.rows import length
from onebase.units import uses

# How lines and cards call the sorts of pieces.
LINE_SORTS = {"code": "code", "table": "table", "const": "cells", "data": "data", "room": "data"}


def defined(thing):
    """BadObject; the ascending (name, sort, length, gives) of all that the object defines."""
    return defined_by(unit_of(thing))


def defined_by(unit):
    """As defined, of the unit."""
    found = []
    for _, x, sort, reach, force, body in unit[4]:
        if reach != "own":
            found.append((x, LINE_SORTS[sort], length(sort, body), force == "strong"))
    return tuple(sorted(found))


def led(thing):
    """BadObject; the ascending (name, spare) of all that the object leads to."""
    return led_by(unit_of(thing))


def led_by(unit):
    """As led, of the unit."""
    own = own_names(unit)
    found = {}
    for piece in unit[4]:
        for x, _, _ in uses(piece):
            if x not in own:
                found[x] = True
    return tuple([(x, x in unit[2]) for x in sorted(found)])


def own_names(unit):
    """A dict of the names of the unit's own pieces."""
    return {piece[1]: True for piece in unit[4] if piece[3] == "own"}


def wanted_by(unit):
    """The names that the unit wants, ascending."""
    return [x for x, spare in led_by(unit) if not spare]
