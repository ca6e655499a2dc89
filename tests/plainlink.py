"""A second reading of what the document says of taking, naming, webs and what is made of them.

As plain as can be: everything is asked anew each time, by looking through all there is.
"""

import functools
import itertools

from tests import plain


class Told(Exception):
    """An error that is due: its name and attributes."""

    def __init__(self, error, /, **attributes):
        self.told = (error, attributes)


def outcome(f, *parts):
    """What a call tells or raises, as support.raised has it."""
    try:
        return ("told", f(*parts))
    except Told as e:
        return e.told


# Of objects that are known to be right; each is read once.
@functools.lru_cache(maxsize=None)
def pieces_of(o):
    return plain.unit_told(o)[4]


@functools.lru_cache(maxsize=None)
def shown(o):
    return {p[1]: p for p in pieces_of(o) if p[3] != "own"}


def own(o):
    return {p[1]: p for p in pieces_of(o) if p[3] == "own"}


@functools.lru_cache(maxsize=None)
def led(o):
    return {x for p in pieces_of(o) for _, _, x, _ in plain.uses_of(p[2], p[5])} - set(own(o))


@functools.lru_cache(maxsize=None)
def wanted(o):
    return led(o) - set(o[2])


def line_sort(p):
    return {"const": "cells", "room": "data"}.get(p[2], p[2])


def cards_of(line):
    return [one[1] for one in line if one[0] == "library"]


def entry_of(goal):
    return goal[1] if goal[0] == "program" else None


def seeks(x, taken, cards, goal):
    """Whether a name is open."""
    defines = any(x in shown(o) for o in taken)
    if x == entry_of(goal) and not defines:
        return True
    exported = any(x == e[0] for c in cards for e in c[3])
    return any(x in wanted(o) for o in taken) and not defines and not exported


def first_of(a, taken, cards, goal):
    for o in a[2]:
        if o not in taken and any(
                p[4] == "strong" and seeks(x, taken, cards, goal) for x, p in shown(o).items()):
            return o
    return None


def go_through(a, taken, cards, goal):
    while first_of(a, taken, cards, goal) is not None:
        taken.append(first_of(a, taken, cards, goal))


def members(line, goal):
    taken, cards = [], []
    for one in line:
        if one[0] == "object":
            taken.append(one[1])
        elif one[0] == "library":
            cards.append(one[1])
        elif one[0] == "archive":
            go_through(one, taken, cards, goal)
        else:
            while True:
                many = len(taken)
                for a in one[1]:
                    go_through(a, taken, cards, goal)
                if len(taken) == many:
                    break
    return tuple(taken)


def chosen_of(x, taken):
    """(m, piece) of the chosen piece."""
    all_of = [(m, shown(o)[x]) for m, o in enumerate(taken) if x in shown(o)]
    firm = [(m, p) for m, p in all_of if p[4] == "strong" and p[2] != "room"]
    rooms = sorted([(m, p) for m, p in all_of if p[2] == "room"], key=lambda pair: (-pair[1][5], pair[0]))
    weak = [(m, p) for m, p in all_of if p[4] == "weak"]
    return (firm + rooms + weak)[0]


def naming(line, goal):
    taken, cards, entry = members(line, goal), cards_of(line), entry_of(goal)
    names = sorted({x for o in taken for x in shown(o)})
    for x in names:
        held = [shown(o)[x] for o in taken if x in shown(o)]
        if len([p for p in held if p[4] == "strong" and p[2] != "room"]) >= 2:
            raise Told("TwoStrong", name=x)
    for x in names:
        if len({line_sort(shown(o)[x]) for o in taken if x in shown(o)}) >= 2:
            raise Told("TwoSorts", name=x)
    exported = {e[0] for c in cards for e in c[3]}
    missing = {x for o in taken for x in wanted(o)} - set(names) - exported
    if entry is not None and entry not in names:
        missing.add(entry)
    if missing:
        raise Told("Missing", names=tuple(sorted(missing)))
    chosen = {x: chosen_of(x, taken) for x in names}
    if entry is not None and chosen[entry][1][2] != "code":
        raise Told("WrongSort", unit=None, piece=None, name=entry)
    table, worth = {}, {}
    for x in set(names) | {y for o in taken for y in led(o)}:
        if x in chosen:
            table[x] = ("piece", chosen[x][0])
            worth[x] = (line_sort(chosen[x][1]), plain.long(chosen[x][1][2], chosen[x][1][5]))
        else:
            worth[x] = ([e[1:] for c in cards for e in c[3] if e[0] == x] + [("code", 0)])[0]
            table[x] = ("slot", *worth[x], all(x in o[2] for o in taken if x in led(o)))
    check_uses(taken, worth)
    exports = sorted((x, *worth[x]) for x in names if chosen[x][1][3] == "open")
    if goal[0] == "program":
        exports = [e for e in exports if any(e[0] == w[0] for c in cards for w in c[4])]
    wants = sorted(
        (x, *worth[x], all(x in o[2] for o in taken if x in led(o)))
        for x in {y for o in taken for y in led(o)}
        if x not in chosen or (goal[0] == "library" and chosen[x][1][3] == "open"))
    return ("naming", goal, taken, tuple(sorted(table.items())), tuple(wants), tuple(exports))


def check_uses(taken, worth):
    for o in taken:
        for p in pieces_of(o):
            # As uses tells them: by names, words, then k; table items have the word "item of".
            for x, word, k in sorted({
                    (x, "item of" if w == "table" else w, n if w == "table" else k or 0)
                    for n, w, x, k in plain.uses_of(p[2], p[5])}):
                if x in own(o):
                    continue
                sort, many = worth[x]
                if sort not in plain.ASKED["table" if word == "item of" else word]:
                    raise Told("WrongSort", unit=o[1], piece=p[1], name=x)
                if word in ("load", "store") and k >= many:
                    raise Told("TooShort", unit=o[1], piece=p[1], name=x)


def leads_to(named, m, x):
    """Of a naming that naming told, and a member and name that are right."""
    _, goal, taken, table, _, _ = named
    if m is not None and x in own(taken[m]):
        return ("piece", m)
    place = dict(table)[x]
    if place[0] == "slot":
        return ("slot",)
    if goal[0] == "library" and shown(taken[place[1]])[x][3] == "open":
        return ("slot",)
    return place


def changed(sort, body, lead):
    """The body with lead(word, x) in the place of each lead."""
    if sort == "table":
        return tuple(x if x is None else lead("table", x) for x in body)
    if sort != "code":
        return body
    at = {"call": 1, "try": 1, "jump": 1}
    rows = []
    for r in body:
        if r[0] in plain.ASKED:
            here = at.get(r[0], 2)
            r = r[:here] + (lead(r[0], r[here]),) + r[here + 1:]
        rows.append(r)
    return tuple(rows)


def web_of(line, goal):
    named = naming(line, goal)
    _, _, taken, table, _, exports = named
    spots = [(m, p) for m, o in enumerate(taken) for p in pieces_of(o)
             if p[3] == "own" or dict(table)[p[1]] == ("piece", m)]
    if len(spots) > 200:
        raise Told("TooMany", most=200)
    number = {(m, p[1]): at for at, (m, p) in enumerate(spots)}

    def lead(m, x):
        place = leads_to(named, m, x)
        return x if place == ("slot",) else number[(place[1], x)]

    knots = tuple(("knot", (m, p[1]), p[2], changed(p[2], p[5], lambda _, x: lead(m, x))) for m, p in spots)
    outs = {number[(dict(table)[e[0]][1], e[0])] for e in exports}
    roots = outs | {number[(m, x)] for m, o in enumerate(taken) for x in o[3]}
    if goal[0] == "program":
        roots.add(number[(dict(table)[goal[1]][1], goal[1])])
    return ("web", tuple(sorted(roots)), tuple(sorted(outs)), knots)


def leads(web, k):
    return sorted({x for _, _, x, _ in plain.uses_of(*web[3][k][2:]) if type(x) is int})


def kept(web):
    found = set(web[1])
    while True:
        more = found | {x for k in found for x in leads(web, k)}
        if more == found:
            return tuple(sorted(found))
        found = more


def simple_roads(web, k):
    """All roads to a knot on which no knot stands twice."""
    waiting = [(root,) for root in web[1]]
    while waiting:
        road = waiting.pop()
        if road[-1] == k:
            yield road
        waiting += [road + (x,) for x in leads(web, road[-1]) if x not in road]


def steps(web, k):
    """By row numbers the knots to which a knot steps."""
    _, _, sort, body = web[3][k]
    found = {n: k for n, r in enumerate(body) if r[0] == "goto"} if sort == "code" else {}
    for n, word, x, _ in plain.uses_of(sort, body):
        if type(x) is int and word in ("call", "try", "jump", "pick"):
            found[n] = x
        elif type(x) is int and word in ("load", "item") and web[3][x][2] == "const":
            found[n] = x
    return found


def front(web, k):
    _, _, sort, body = web[3][k]
    if sort in ("data", "room"):
        return (sort, k)
    if sort != "code":
        return (sort, body)
    at = steps(web, k)
    rows = []
    for n, r in enumerate(body):
        if n not in at:
            rows.append(r)
        elif r[0] == "goto":
            rows.append(("goto", "", r[1]))
        elif r[0] == "jump":
            rows.append(("goto", "", 0))
        elif r[0] in ("call", "try"):
            rows.append((r[0], "") + r[2:])
        else:
            rows.append((r[0], r[1], "") + r[3:])
    return (sort, tuple(rows))


def is_even(web, lots):
    """Of a tuple of tuples of kept knots, each in just one."""
    lot_of = {k: lot for lot in lots for k in lot}
    for lot in lots:
        for one, other in itertools.combinations(lot, 2):
            if front(web, one) != front(web, other):
                return False
            here, there = steps(web, one), steps(web, other)
            if any(lot_of[here[n]] != lot_of[there[n]] for n in here):
                return False
    return True


def partings(things):
    """All partings of a list."""
    if not things:
        yield ()
        return
    first, *rest = things
    for many in range(len(rest) + 1):
        for others in itertools.combinations(rest, many):
            for more in partings([x for x in rest if x not in others]):
                yield ((first,) + others,) + more


def even_partings(web):
    return [tuple(sorted(lots)) for lots in partings(list(kept(web))) if is_even(web, lots)]


def told(web):
    found = {k for k in web[2] if web[3][k][2] == "code"}
    for k in kept(web):
        found |= {x for _, word, x, _ in plain.uses_of(*web[3][k][2:])
                  if word in ("take", "table") and type(x) is int}
    return tuple(sorted(found))
