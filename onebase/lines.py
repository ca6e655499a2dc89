"""Lines of objects, archives, rounds and libraries; goals; cards."""

from onebase.errors import BadGoal, BadLine, NoLibrary
from onebase.kinds import are_different, is_rising, is_tagged, is_tuple_of, within
from onebase.parts import part_in
from onebase.words import is_name

# The least and the greatest length that cards tell of each sort.
LENGTHS = {"code": (0, 0), "table": (1, 16), "cells": (1, 64), "data": (1, 64)}


def is_line(thing):
    """Whether any value is a line."""
    return line_in(thing) is not None


def line_in(thing):
    """Pairs (item, shelves) of the items of a line, None for any value that is none.

    Shelves are lists of objects taken apart: one for an object or an archive,
    one for each archive of a round, none for a library.
    """
    if not isinstance(thing, tuple):
        return None
    read = []
    for item in thing:
        shelves = shelves_in(item)
        if shelves is None:
            return None
        read.append((item, shelves))
    return read if are_told_apart(read) else None


def are_told_apart(read):
    """Whether units, archives and cards have different names, of what line_in reads."""
    items = [item for item, _ in read]
    units = [part.unit[1] for _, shelves in read for shelf in shelves for part in shelf]
    archives = [archive[1] for item in items for archive in archives_in(item)]
    cards = [card[1] for card in cards_in(items)]
    return are_different(units) and are_different(archives) and are_different(cards)


def shelves_in(thing):
    """The shelves of any value, None if it is no item."""
    if is_tagged(thing, "library", 2):
        return [] if is_card(thing[1]) else None
    if is_tagged(thing, "object", 2):
        held = [shelf_in(thing[1:])]
    elif is_archive(thing):
        held = [shelf_in(thing[2])]
    elif is_tagged(thing, "round", 2) and is_tuple_of(thing[1], is_archive):
        held = [shelf_in(archive[2]) for archive in thing[1]]
    else:
        return None
    return None if None in held else held


def is_archive(thing):
    """Whether any value has the form of an archive, whatever its objects are."""
    return is_tagged(thing, "archive", 3) and is_name(thing[1])


def shelf_in(things):
    """The objects of sound units, taken apart; None if there is anything else."""
    if not isinstance(things, tuple):
        return None
    found = []
    for made in things:
        part = part_in(made)
        if part is None or not part.is_sound():
            return None
        found.append(part)
    return found


def archives_in(item):
    """The archives of an item, in order: itself, or those of a round."""
    if item[0] == "archive":
        return [item]
    if item[0] == "round":
        return list(item[1])
    return []


def cards_in(line):
    """The cards of a line, in order."""
    return [item[1] for item in line if item[0] == "library"]


def is_goal(thing):
    """Whether any value is a goal."""
    return ((is_tagged(thing, "program", 2) or is_tagged(thing, "library", 2))
            and is_name(thing[1]))


def is_card(thing):
    """Whether any value is a card."""
    if not is_tagged(thing, "card", 5):
        return False
    _, name, needs, exports, wants = thing
    return is_name(name) and are_needs(needs, name) and are_exports(exports) and are_wants(wants)


def are_needs(thing, name):
    """Whether any value tells what a card of this name may need."""
    return is_tuple_of(thing, is_name) and are_different(thing) and name not in thing


def are_exports(thing):
    return is_tuple_of(thing, is_export) and is_rising([part[0] for part in thing])


def are_wants(thing):
    """Whether any value tells what a card may want."""
    return is_tuple_of(thing, is_want) and is_rising([part[0] for part in thing])


def is_export(thing):
    if not isinstance(thing, tuple) or len(thing) != 3:
        return False
    x, sort, many = thing
    return is_told_piece(x, sort, many)


def is_want(thing):
    if not isinstance(thing, tuple) or len(thing) != 4:
        return False
    x, sort, many, spare = thing
    return is_told_piece(x, sort, many) and (spare is True or spare is False)


def is_told_piece(x, sort, many):
    if not is_name(x) or not isinstance(sort, str) or sort not in LENGTHS:
        return False
    low, high = LENGTHS[sort]
    return within(many, low, high)


def read_line(line, goal):
    """BadLine, BadGoal, NoLibrary: what is raised ahead of all else; the pairs of line_in."""
    read = line_in(line)
    if read is None:
        raise BadLine("no line")
    cards = cards_in(line)
    if not is_goal_beside(cards, goal):
        raise BadGoal("no goal of this line")
    x = lacking_in(cards)
    if x is not None:
        raise NoLibrary(x)
    return read


def is_goal_beside(cards, thing):
    """Whether any value is a goal for a line with these cards."""
    if not is_goal(thing):
        return False
    return thing[0] == "program" or thing[1] not in [card[1] for card in cards]


def lacking_in(cards):
    """The first name that a card needs and none of them has, None if there is none."""
    names = {card[1]: True for card in cards}
    for card in cards:
        for x in card[2]:
            if x not in names:
                return x
    return None
