"""Deeds, which change a line and its goal."""

from onebase.errors import BadDeed
from onebase.kinds import is_number, is_tagged
from onebase.lines import (
    are_told_apart, cards_in, is_goal, is_goal_beside, lacking_in, read_line, shelves_in,
)


def is_deed(thing):
    """Whether any value is a deed."""
    return deed_in(thing) is not None


def deed_in(thing):
    """What any value puts in as a deed, as read_line tells items; None if it is no deed."""
    if is_tagged(thing, "goal", 2):
        return [] if is_goal(thing[1]) else None
    if is_tagged(thing, "take", 2):
        return [] if is_number(thing[1]) and thing[1] >= 0 else None
    if not is_tagged(thing, "put", 3) and not is_tagged(thing, "exchange", 3):
        return None
    _, n, item = thing
    shelves = shelves_in(item)
    if not is_number(n) or n < 0 or shelves is None or not are_told_apart([(item, shelves)]):
        return None
    return [(item, shelves)]


def after(line, goal, deed):
    """BadLine, BadGoal, NoLibrary, BadDeed; the pair (line, goal) behind the deed."""
    read = read_line(line, goal)
    more = deed_in(deed)
    if more is None:
        raise BadDeed("no deed")
    if deed[0] == "goal":
        goal = deed[1]
    else:
        n = deed[1]
        if n > len(read) or (deed[0] != "put" and n == len(read)):
            raise BadDeed("there is no such item")
        read = read[:n] + more + read[n if deed[0] == "put" else n + 1:]
    items = tuple([item for item, _ in read])
    cards = cards_in(items)
    if not are_told_apart(read) or not is_goal_beside(cards, goal) or lacking_in(cards) is not None:
        raise BadDeed("behind it there is no line for the goal")
    return items, goal
