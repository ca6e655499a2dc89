"""Lines of objects, archives, rounds and libraries; goals; cards."""

from onebase.errors import BadGoal, BadLine, NoLibrary
from onebase.kinds import are_different, is_rising, is_tagged, is_tuple_of, within
from onebase.objects import unit_in
from onebase.units import unit_faults
from onebase.words import is_name

# The least and the greatest length that cards tell of each sort.
LENGTHS = {"code": (0, 0), "table": (1, 16), "cells": (1, 64), "data": (1, 64)}


def is_line(thing):
    """Whether any value is a line."""
    if not is_tuple_of(thing, is_item):
        return False
    units = []
    archives = []
    cards = []
    for item in thing:
        units.extend([made[1] for made in objects_in(item)])
        archives.extend([archive[1] for archive in archives_in(item)])
        if item[0] == "library":
            cards.append(item[1][1])
    return are_different(units) and are_different(archives) and are_different(cards)


def is_item(thing):
    if is_tagged(thing, "object", 2):
        return is_sound(thing[1])
    if is_tagged(thing, "round", 2):
        return is_tuple_of(thing[1], is_archive)
    if is_tagged(thing, "library", 2):
        return is_card(thing[1])
    return is_archive(thing)


def is_archive(thing):
    return (is_tagged(thing, "archive", 3) and is_name(thing[1])
            and is_tuple_of(thing[2], is_sound))


def is_sound(thing):
    """Whether any value is the object of a sound unit."""
    unit = unit_in(thing)
    return unit is not None and unit_faults(unit) == ()


def archives_in(item):
    """The archives of an item, in order: itself, or those of a round."""
    if item[0] == "archive":
        return [item]
    if item[0] == "round":
        return list(item[1])
    return []


def objects_in(item):
    """The objects of an item, in order."""
    if item[0] == "object":
        return [item[1]]
    found = []
    for archive in archives_in(item):
        found.extend(archive[2])
    return found


def cards_in(line):
    """The cards of a line, in order."""
    return [item[1] for item in line if item[0] == "library"]


def is_goal(thing):
    """Whether any value is a goal."""
    return ((is_tagged(thing, "program", 2) or is_tagged(thing, "library", 2))
            and is_name(thing[1]))


def is_card(thing):
    """Whether any value is a card."""
    if not is_tagged(thing, "card", 5):
        return False
    _, name, needs, exports, wants = thing
    return is_name(name) and are_needs(needs, name) and are_exports(exports) and are_wants(wants)


def are_needs(thing, name):
    """Whether any value tells what a card of this name may need."""
    return is_tuple_of(thing, is_name) and are_different(thing) and name not in thing


def are_exports(thing):
    return is_tuple_of(thing, is_export) and is_rising([part[0] for part in thing])


def are_wants(thing):
    """Whether any value tells what a card may want."""
    return is_tuple_of(thing, is_want) and is_rising([part[0] for part in thing])


def is_export(thing):
    if not isinstance(thing, tuple) or len(thing) != 3:
        return False
    x, sort, many = thing
    return is_told_piece(x, sort, many)


def is_want(thing):
    if not isinstance(thing, tuple) or len(thing) != 4:
        return False
    x, sort, many, spare = thing
    return is_told_piece(x, sort, many) and (spare is True or spare is False)


def is_told_piece(x, sort, many):
    if not is_name(x) or not isinstance(sort, str) or sort not in LENGTHS:
        return False
    low, high = LENGTHS[sort]
    return within(many, low, high)


def check_line(line, goal):
    """BadLine, BadGoal, NoLibrary: what is raised ahead of all else for a line and goal."""
    if not is_line(line):
        raise BadLine("no line")
    cards = cards_in(line)
    names = [card[1] for card in cards]
    if not is_goal(goal) or (goal[0] == "library" and goal[1] in names):
        raise BadGoal("no goal of this line")
    for card in cards:
        for x in card[2]:
            if x not in names:
                raise NoLibrary(x)
