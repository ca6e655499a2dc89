"""A second reading of what the document calls units, objects, lines, webs and bundles.

Written apart from the program, as plainly as the document tells it; each judge
takes any value. What a judge may not look at raises within it, and is none.
"""

from onebase.words import KEPT


class No(Exception):
    pass


def need(truth):
    if truth is not True:
        raise No


def judge(f):
    def told(*parts):
        try:
            f(*parts)
        except No:
            return False
        return True
    told.need = f
    return told


def tuple_(x, low=0, high=10 ** 9):
    need(type(x) is tuple)
    need(low <= len(x) <= high)
    return x


def number(x, low, high):
    need(type(x) is int)
    need(low <= x <= high)


def word(x, *words):
    need(type(x) is str)
    need(x in words)


def name(x):
    need(type(x) is str)
    need(0 < len(x) < 9)
    need(set(x) <= set("abcdefghijklmnopqrstuvwxyz"))
    need(x not in KEPT)


def ascending(xs):
    need(all(a < b for a, b in zip(xs, xs[1:])))


def apart(xs):
    need(len(set(xs)) == len(xs))


def row(r, many, lead):
    need(type(r) is tuple and len(r) > 0 and type(r[0]) is str)
    reg = lambda x: number(x, 0, 3)
    place = lambda x: number(x, 0, 1)
    cell = lambda x: number(x, 0, 63)
    at = lambda x: number(x, 0, many - 1)
    forms = {
        "set": (reg, cell), "copy": (reg, reg), "plus": (reg, reg), "less": (reg, reg), "ask": (reg,),
        "show": (reg,), "load": (reg, lead, cell), "store": (reg, lead, cell), "item": (reg, lead, reg),
        "fill": (reg, lead, reg), "take": (place, lead), "pick": (place, lead, reg),
        "alike": (reg, place, place), "call": (lead,), "try": (lead, at), "leap": (place,), "jump": (lead,),
        "goto": (at,), "if": (reg, at), "return": (), "stop": (), "fail": (lambda x: number(x, 0, 62),),
    }
    need(r[0] in forms)
    need(len(r) - 1 == len(forms[r[0]]))
    for check, part in zip(forms[r[0]], r[1:]):
        check(part)


def body(sort, b, lead):
    word(sort, "code", "data", "const", "table", "room")
    if sort == "code":
        tuple_(b, 1, 40)
        for r in b:
            row(r, len(b), lead)
        word(b[-1][0], "goto", "jump", "return", "stop", "fail")
    elif sort == "table":
        for x in tuple_(b, 1, 16):
            if x is not None:
                lead(x)
    elif sort == "room":
        number(b, 1, 64)
    else:
        for x in tuple_(b, 1, 64):
            number(x, 0, 63)


def uses_of(sort, b):
    """(row, word, lead, k) of a body that is known to be right; k None where none is asked."""
    if sort == "table":
        return [(n, "table", x, None) for n, x in enumerate(b) if x is not None]
    found = []
    for n, r in enumerate(b if sort == "code" else ()):
        if r[0] in ("load", "store"):
            found.append((n, r[0], r[2], r[3]))
        elif r[0] in ("item", "fill", "take", "pick"):
            found.append((n, r[0], r[2], None))
        elif r[0] in ("call", "try", "jump"):
            found.append((n, r[0], r[1], None))
    return found


ASKED = {
    "call": ("code",), "try": ("code",), "jump": ("code",), "take": ("code",), "table": ("code",),
    "pick": ("table",), "load": ("data", "const", "room", "cells"), "item": ("data", "const", "room", "cells"),
    "store": ("data", "room"), "fill": ("data", "room"),
}


def long(sort, b):
    return {"code": lambda: 0, "room": lambda: b}.get(sort, lambda: len(b))()


def piece_(p):
    tuple_(p, 6, 6)
    word(p[0], "piece")
    name(p[1])
    word(p[3], "own", "hidden", "open")
    word(p[4], "strong", "weak")
    body(p[2], p[5], name)
    need(not (p[4] == "weak" and (p[3] == "own" or p[2] == "room")))


def unit_(u):
    tuple_(u, 5, 5)
    word(u[0], "unit")
    name(u[1])
    for x in tuple_(u[2]):
        name(x)
    for x in tuple_(u[3]):
        name(x)
    for p in tuple_(u[4], 1, 24):
        piece_(p)
    names = [p[1] for p in u[4]]
    apart(names)
    ascending(u[2])
    need(not set(names) & set(u[2]))
    shown = [x for p in u[4] for _, w, x, _ in uses_of(p[2], p[5]) if w in ("take", "table")]
    for x in u[3]:
        need(("code", "own") in [(p[2], p[3]) for p in u[4] if p[1] == x])
        need(x not in shown)


def faults(u):
    found = []
    own = {p[1]: p for p in u[4] if p[3] == "own"}
    for p in u[4]:
        for n, w, x, k in uses_of(p[2], p[5]):
            if x in u[2] and w not in ("call", "try", "jump", "take"):
                found.append(("spare", x, p[1], n))
            elif x in own and own[x][2] not in ASKED[w]:
                found.append(("sort", x, p[1], n))
            elif x in own and k is not None and k >= long(own[x][2], own[x][5]):
                found.append(("short", x, p[1], n))
    return tuple(found)


# The codes of rows that lead nowhere, with the greatest value of each of their parts.
CODES = {
    1: ("set", 3, 63), 2: ("copy", 3, 3), 3: ("plus", 3, 3), 4: ("less", 3, 3), 5: ("ask", 3), 6: ("show", 3),
    13: ("alike", 3, 1, 1), 20: ("leap", 1), 21: ("return",), 22: ("stop",), 23: ("fail", 62),
}


def rows_of(items, lead):
    """The rows that the items of a chunk of code tell."""
    rows = []
    items = list(tuple_(items, 1))
    while items:
        one = items.pop(0)
        if type(one) is int:
            need(one in CODES)
            told, *greatest = CODES[one]
            need(len(items) >= len(greatest))
            parts = [items.pop(0) for _ in greatest]
            for part, most in zip(parts, greatest):
                number(part, 0, most)
            rows.append((told, *parts))
        elif len(tuple_(one, 4, 5)) == 4:
            word(one[0], "branch")
            word(one[1], "goto", "if", "call", "try", "jump")
            tuple_(one[3], 2, 2)
            word(one[3][0], "row" if one[1] in ("goto", "if") else "name")
            if one[1] in ("if", "try"):
                number(one[2], 0, 39)
            else:
                need(one[2] is None)
            aim = one[3][1]
            if one[1] == "if":
                rows.append(("if", one[2], aim))
            elif one[1] == "try":
                rows.append(("try", aim, one[2]))
            else:
                rows.append((one[1], aim))
        else:
            word(one[0], "near")
            word(one[1], "load", "store", "item", "fill", "take", "pick")
            tuple_(one[2], 1 if one[1] in ("load", "store", "take") else 2, 2)
            if one[1] in ("load", "store"):
                tuple_(one[2], 1, 1)
                rows.append((one[1], one[2][0], one[3], one[4]))
            else:
                number(one[4], 0, 0)
                rows.append((one[1], one[2][0], one[3], *one[2][1:]))
    return tuple(rows)


def unit_told(o):
    tuple_(o, 5, 5)
    word(o[0], "object")
    pieces = []
    for chunk in tuple_(o[4]):
        tuple_(chunk, 5, 5)
        held = chunk[4]
        word(chunk[1], "code", "data", "const", "table", "room")
        if chunk[1] == "code":
            held = rows_of(held, name)
        pieces.append(("piece", *chunk[:4], held))
    u = ("unit", *o[1:4], tuple(pieces))
    unit_(u)
    return u


def sound(o):
    need(faults(unit_told(o)) == ())


def told_piece(x, sort, many):
    name(x)
    word(sort, "code", "table", "cells", "data")
    number(many, 0 if sort == "code" else 1, {"code": 0, "table": 16}.get(sort, 64))


def needs_(needs, own):
    for x in tuple_(needs):
        name(x)
    apart(needs)
    need(own not in needs)


def wants_(wants):
    for want in tuple_(wants):
        tuple_(want, 4, 4)
        told_piece(*want[:3])
        need(type(want[3]) is bool)
    ascending([want[0] for want in wants])


def card_(c):
    tuple_(c, 5, 5)
    word(c[0], "card")
    name(c[1])
    needs_(c[2], c[1])
    for export in tuple_(c[3]):
        told_piece(*tuple_(export, 3, 3))
    ascending([export[0] for export in c[3]])
    wants_(c[4])


def archive_(a, archives, objects):
    tuple_(a, 3, 3)
    word(a[0], "archive")
    name(a[1])
    archives.append(a[1])
    for o in tuple_(a[2]):
        sound(o)
        objects.append(o[1])


def line_(thing):
    objects, archives, cards = [], [], []
    for one in tuple_(thing):
        tuple_(one, 2, 3)
        if len(one) == 3:
            archive_(one, archives, objects)
            continue
        word(one[0], "object", "round", "library")
        if one[0] == "object":
            sound(one[1])
            objects.append(one[1][1])
        elif one[0] == "library":
            card_(one[1])
            cards.append(one[1][1])
        else:
            for a in tuple_(one[1]):
                archive_(a, archives, objects)
    apart(objects)
    apart(archives)
    apart(cards)


def goal_(g):
    tuple_(g, 2, 2)
    word(g[0], "program", "library")
    name(g[1])


def lead(x):
    if type(x) is not int:
        name(x)


def numbers(xs, many):
    for x in tuple_(xs):
        number(x, 0, many - 1)


def serves(w, k, sort, many):
    need(sort in ASKED[w])
    need(k is None or k < many)


def web_(w):
    tuple_(w, 4, 4)
    word(w[0], "web")
    knots = tuple_(w[3], 0, 200)
    for knot in knots:
        tuple_(knot, 4, 4)
        word(knot[0], "knot")
        tuple_(knot[1], 2, 2)
        number(knot[1][0], 0, 10 ** 99)
        name(knot[1][1])
        body(knot[2], knot[3], lead)
    apart([knot[1] for knot in knots])
    numbers(w[1], len(knots))
    numbers(w[2], len(knots))
    ascending(w[1])
    ascending(w[2])
    need(set(w[2]) <= set(w[1]))
    for knot in knots:
        for _, asking, x, k in uses_of(knot[2], knot[3]):
            if type(x) is int:
                number(x, 0, len(knots) - 1)
                serves(asking, k, knots[x][2], long(knots[x][2], knots[x][3]))


def bundle_(b):
    tuple_(b, 8, 8)
    word(b[0], "bundle")
    _, told, entry, needs, wants, starts, exports, bodies = b
    if type(told) is not str or told != "":
        name(told)
    needs_(needs, told)
    wants_(wants)
    for one in tuple_(bodies, 0, 200):
        tuple_(one, 4, 4)
        word(one[0], "body")
        for pair in tuple_(one[2], 1):
            for x in tuple_(pair, 2, 2):
                name(x)
        apart(one[2])
        body(one[1], one[3], lead)
    order = ["code", "const", "table", "data", "room"]
    at = [order.index(one[1]) for one in bodies]
    need(at == sorted(at))
    codes = at.count(0)
    numbers(starts, codes)
    if told == "":
        number(entry, 0, codes - 1)
    else:
        need(entry is None)
    for pair in tuple_(exports):
        tuple_(pair, 2, 2)
        name(pair[0])
        number(pair[1], 0, len(bodies) - 1)
    ascending([pair[0] for pair in exports])
    named = {x: (sort, many) for x, sort, many, _ in wants}
    for index, one in enumerate(bodies):
        for _, asking, x, k in uses_of(one[1], one[3]):
            if type(x) is int:
                number(x, 0, len(bodies) - 1)
                serves(asking, k, bodies[x][1], long(bodies[x][1], bodies[x][3]))
                need(not (asking == "jump" and x == index))
            else:
                need(x in named)
                serves(asking, k, *named[x])


is_name = judge(name)
is_row = judge(lambda thing, many: row(thing, many, name))
is_piece = judge(piece_)
is_unit = judge(unit_)
is_object = judge(unit_told)
is_line = judge(line_)
is_goal = judge(goal_)
is_card = judge(card_)
is_web = judge(web_)
is_bundle = judge(bundle_)
