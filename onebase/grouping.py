"""Groups: items of plain lines that come one behind another, together where they must."""

from onebase.errors import BadGroups, BadLine
from onebase.kinds import are_numbers_below, is_rising, is_tuple_of
from onebase.lines import archives_in, is_line
from onebase.plainlines import plain_line


def groups(line, goal):
    """The errors of needed; groups of the items."""
    held = plain_line(line, goal)
    found = []
    left = list(range(held.many))
    laid = []
    while left:
        group = next_group(held, left, laid)
        found.append(group)
        laid.extend(group)
        left = [n for n in left if n not in group]
    return tuple(found)


def next_group(held, left, laid):
    """As few of the items left as can be that come behind those laid."""
    many = 1
    coming = groups_of(held, left, laid, many)
    while not coming:
        many += 1
        coming = groups_of(held, left, laid, many)
    return coming[0]


def groups_of(held, left, laid, many):
    """All groups of so many of the items left that come behind those laid."""
    lot = held.lot_of(laid)
    if many == 1:
        return [(n,) for n in left if held.comes(n, lot)]
    shelves = [n for n in left if not held.is_free(n)]
    return [group for group in choices(shelves, many) if held.come_together(group, lot)]


def choices(things, many):
    """All tuples of so many of the things, in their order."""
    found = [[()]] + [[] for _ in range(many)]
    for thing in things:
        for size in range(many, 0, -1):
            found[size].extend([lot + (thing,) for lot in found[size - 1]])
    return found[many]


def is_groups(line, goal, thing):
    """The errors of needed; whether any value is groups of the items."""
    held = plain_line(line, goal)
    if not are_lots(thing, held.many):
        return False
    laid = []
    for group in thing:
        left = [n for n in range(held.many) if n not in laid]
        for many in range(1, len(group)):
            if groups_of(held, left, laid, many):
                return False
        lot = held.lot_of(laid)
        if len(group) == 1:
            if not held.comes(group[0], lot):
                return False
        elif not held.come_together(group, lot):
            return False
        laid.extend(group)
    return True


def are_lots(thing, many):
    """Whether any value is a tuple of ascending tuples with the number of each item once."""
    if not is_tuple_of(thing, lambda group: are_numbers_below(group, many)):
        return False
    if not all(group and is_rising(group) for group in thing):
        return False
    return sorted([n for group in thing for n in group]) == list(range(many))


def grouped(line, groups):
    """BadLine, BadGroups; the line in which each group is its item, or one round."""
    if not is_line(line):
        raise BadLine("no line")
    if not are_lots(groups, len(line)):
        raise BadGroups("no groups of this line's items")
    return tuple([item_of([line[n] for n in group]) for group in groups])


def item_of(items):
    """BadGroups; the only item, or the round of all archives of the items."""
    if len(items) == 1:
        return items[0]
    if not all(item[0] in ("archive", "round") for item in items):
        raise BadGroups("what comes together has archives alone")
    return ("round", tuple([archive for item in items for archive in archives_in(item)]))
