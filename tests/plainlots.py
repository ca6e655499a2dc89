"""A second reading of plain lines, orders, groups, lots and bars: by going through all there are."""

import itertools

from tests import plain, plainlink
from tests.plainlink import Told, cards_of, entry_of, outcome, shown, wanted


def objects_in(one):
    """The objects of an item, in order."""
    if one[0] == "object":
        return [one[1]]
    if one[0] == "archive":
        return list(one[2])
    if one[0] == "round":
        return [o for a in one[1] for o in a[2]]
    return []


def objects_of(line):
    return [o for one in line for o in objects_in(one)]


def fixed(line):
    return [one[1] for one in line if one[0] == "object"]


def movable(line):
    """The objects that stand in archives and rounds, in the order of the line."""
    return [o for one in line if one[0] in ("archive", "round") for o in objects_in(one)]


def gives(o, x):
    return x in shown(o) and shown(o)[x][4] == "strong"


def lots_of(things):
    for many in range(len(things) + 1):
        yield from itertools.combinations(things, many)


# Plain lines.

def not_plain(line):
    """The names that two define, ascending."""
    told = [x for o in objects_of(line) for x in shown(o)] + [e[0] for c in cards_of(line) for e in c[3]]
    return sorted({x for x in told if told.count(x) > 1})


def is_closed(lot, line, goal):
    for o in objects_of(line):
        due = o in fixed(line) or any(
            gives(o, x) and (x == entry_of(goal) or any(x in wanted(other) for other in lot)) for x in shown(o))
        if due and o not in lot:
            return False
    return True


def missing(taken, line, goal):
    """The names that are missing if just these are the members."""
    names = {x for o in taken for x in shown(o)}
    found = {x for o in taken for x in wanted(o)} - names - {e[0] for c in cards_of(line) for e in c[3]}
    if entry_of(goal) is not None and entry_of(goal) not in names:
        found.add(entry_of(goal))
    return tuple(sorted(found))


def needed_objects(line, goal):
    if not_plain(line):
        raise Told("NotPlain", name=not_plain(line)[0])
    least = [lot for lot in lots_of(objects_of(line)) if is_closed(lot, line, goal)][0]
    if missing(least, line, goal):
        raise Told("Missing", names=missing(least, line, goal))
    return least


def needed(line, goal):
    return tuple(sorted(o[1] for o in needed_objects(line, goal)))


class Orders:
    """Of a plain line for which needed raises nothing."""

    def __init__(self, line, goal):
        self.line, self.goal = line, goal
        self.needed = needed_objects(line, goal)
        self.known = {}

    def of(self, numbers):
        """The needed objects of these items."""
        return [o for n in numbers for o in objects_in(self.line[n]) if o in self.needed]

    def behind(self, item, lot):
        """Whether all needed objects of an item become members if just the lot are the members so far."""
        key = (item, tuple(sorted(o[1] for o in lot)))
        if key not in self.known:
            taken = plainlink.members(tuple(("object", o) for o in lot) + (item,), self.goal)
            self.known[key] = all(o in taken for o in objects_in(item) if o in self.needed)
        return self.known[key]

    def comes(self, n, lot):
        return self.line[n][0] in ("object", "library") or self.behind(self.line[n], lot)

    def together(self, numbers, lot):
        items = [self.line[n] for n in sorted(numbers)]
        if len(items) < 2 or any(one[0] not in ("archive", "round") for one in items):
            return False
        return self.behind(("round", tuple(a for one in items for a in ([one] if one[0] == "archive" else one[1]))), lot)

    def fulls(self):
        """All full orders, ascending: those in which naming raises no Missing."""
        found = []
        for order in itertools.permutations(range(len(self.line))):
            line = tuple(self.line[n] for n in order)
            if not missing(plainlink.members(line, self.goal), line, self.goal):
                found.append(order)
        return found

    def is_knot(self, numbers):
        lot = self.of(n for n in range(len(self.line)) if n not in numbers)
        return len(numbers) > 0 and not any(self.comes(n, lot) for n in numbers)

    def knots(self):
        return [lot for lot in lots_of(range(len(self.line))) if self.is_knot(lot)]

    def are_groups(self, groups):
        """Of tuples of ascending tuples that have each number once."""
        for at, group in enumerate(groups):
            ahead = [n for other in groups[:at] for n in other]
            lot = self.of(ahead)
            left = [n for n in range(len(self.line)) if n not in ahead]
            if len(group) == 1:
                if not self.comes(group[0], lot):
                    return False
                continue
            if not self.together(group, lot):
                return False
            for fewer in lots_of(left):
                if 0 < len(fewer) < len(group):
                    if self.comes(fewer[0], lot) if len(fewer) == 1 else self.together(fewer, lot):
                        return False
        return True


def ordered_partings(things):
    """All tuples of ascending tuples that have each thing once."""
    if not things:
        yield ()
        return
    for many in range(1, len(things) + 1):
        for first in itertools.combinations(things, many):
            for rest in ordered_partings([x for x in things if x not in first]):
                yield (first,) + rest


# Lots, bars and papers.

def holds(lot, line, goal):
    """Whether a lot of objects holds: with just it and the object items as members."""
    rest = tuple(one for one in line if one[0] == "library")
    told = outcome(plainlink.naming, tuple(("object", o) for o in fixed(line) + list(lot)) + rest, goal)
    return told[0] not in ("TwoStrong", "TwoSorts", "Missing")


def names_of(lot):
    return tuple(sorted(o[1] for o in lot))


def lots(line, goal):
    return tuple(sorted(names_of(lot) for lot in lots_of(movable(line)) if holds(lot, line, goal)))


def bars(line, goal):
    held = [set(lot) for lot in lots(line, goal)]
    found = [set(names_of(lot)) for lot in lots_of(movable(line))]
    found = [lot for lot in found if not any(lot <= other for other in held)]
    return tuple(sorted(tuple(sorted(lot)) for lot in found if not any(other < lot for other in found)))


def is_lot(thing, line):
    if type(thing) is not tuple or any(type(x) is not str for x in thing):
        return False
    return all(x in names_of(movable(line)) for x in thing) and list(thing) == sorted(set(thing))


def is_step(step, ahead, line, goal):
    if type(step) is not tuple or len(step) != 2 or not is_lot(step[0], line):
        return False
    lot, why = step
    if type(why) is not tuple or len(why) != 4 or type(why[0]) is not str or type(why[1]) is not str:
        return False
    units = {o[1]: o for o in objects_of(line)}
    inner = names_of(movable(line))
    _, x, a, b = why
    if why[0] == "two":
        if type(a) is not str or type(b) is not str or a not in units or b not in units:
            return False
        if list(units).index(a) >= list(units).index(b) or x not in shown(units[a]) or x not in shown(units[b]):
            return False
        p, q = shown(units[a])[x], shown(units[b])[x]
        firm = all(r[4] == "strong" and r[2] != "room" for r in (p, q))
        if not firm and plainlink.line_sort(p) == plainlink.line_sort(q):
            return False
        return set(lot) == {a, b} & set(inner)
    if why[0] != "wants" or type(b) is not tuple or any(type(k) is not int or not 0 <= k < len(ahead) for k in b):
        return False
    if a is None:
        if x != entry_of(goal):
            return False
    elif type(a) is not str or a not in units or x not in wanted(units[a]):
        return False
    elif any(x == e[0] for c in cards_of(line) for e in c[3]):
        return False
    if any(x in shown(o) for o in fixed(line)):
        return False
    due = [o[1] for o in movable(line) if x in shown(o)]
    if len(due) != len(b) or any(unit not in ahead[k] for unit, k in zip(due, b)):
        return False
    told = {u for unit, k in zip(due, b) for u in ahead[k] if u != unit} | ({a} & set(inner))
    return set(lot) == told


def is_paper(thing, line, goal):
    if type(thing) is not tuple:
        return False
    ahead = []
    for step in thing:
        if not is_step(step, ahead, line, goal):
            return False
        ahead.append(step[0])
    return True


def is_lot_with(line, goal, lot, thing):
    if type(thing) is not tuple or len(thing) != 2 or type(thing[0]) is not str:
        return False
    if thing[0] == "lot":
        return is_lot(thing[1], line) and set(lot) <= set(thing[1]) and thing[1] in lots(line, goal)
    return thing[0] == "bar" and is_paper(thing[1], line, goal) and len(thing[1]) > 0 and set(thing[1][-1][0]) <= set(lot)


# Want papers.

def is_want_paper(line, goal, thing):
    """By replaying the taking: what was open as each member became one."""
    taken = plainlink.members(line, goal)
    if type(thing) is not tuple or len(thing) != len(taken):
        return False
    alone = fixed(line)
    cards_ahead = {}
    cards = []
    for one in line:
        if one[0] == "library":
            cards = cards + [one[1]]
        for o in objects_in(one):
            cards_ahead[o[1]] = cards
    for at, (o, told) in enumerate(zip(taken, thing)):
        if o in alone:
            if told is not None:
                return False
            continue
        if type(told) is not tuple or len(told) != 2 or not plain.is_name(told[0]):
            return False
        x, m = told
        if not gives(o, x) or not plainlink.seeks(x, taken[:at], cards_ahead[o[1]], goal):
            return False
        if m is None:
            if x != entry_of(goal):
                return False
        elif type(m) is not int or not 0 <= m < at or x not in wanted(taken[m]):
            return False
    return True
