"""Made-up units, lines, webs and bundles, from a seeded random source."""

from onebase.objects import assembled
from tests import plain, plainlink
from tests.support import archive, card, item

CODES = ("ca", "cb", "cc", "cd", "ce", "cf")
DATA = ("da", "db")
CONSTS = ("ka", "kb")
TABLES = ("ta", "tb")
SORT = {"c": "code", "d": "data", "k": "const", "t": "table"}
ORDER = ("code", "const", "table", "data", "room")


def one_row(rng, many, lead):
    """A row; lead(word) tells what it leads to, None if there is nothing of the sort."""
    word = rng.choice((
        "set", "show", "call", "call", "call", "try", "jump", "take", "pick", "load", "item", "store", "fill",
        "goto", "if", "leap"))
    x = lead(word)
    at = rng.randrange(many)
    rows = {
        "set": ("set", 0, rng.randrange(2)), "show": ("show", rng.randrange(2)), "call": ("call", x),
        "try": ("try", x, at), "jump": ("jump", x), "take": ("take", 0, x), "pick": ("pick", 0, x, 0),
        "load": ("load", 0, x, rng.choice((0, 0, 0, 1))), "item": ("item", 0, x, 0),
        "store": ("store", 0, x, rng.choice((0, 0, 0, 1))), "fill": ("fill", 0, x, 0), "goto": ("goto", at),
        "if": ("if", 0, at), "leap": ("leap", 0),
    }
    if x is None and word in plain.ASKED:
        return ("show", 0)
    return rows[word]


def one_body(rng, sort, lead, most=4):
    if sort == "code":
        many = rng.randrange(1, most + 1)
        rows = [one_row(rng, many, lead) for _ in range(many - 1)]
        last = rng.choice((("return",), ("return",), ("stop",), ("goto", 0), ("jump", lead("jump"))))
        return tuple(rows) + ((("return",) if last == ("jump", None) else last),)
    if sort == "table":
        return tuple(rng.choice((None, lead("table"), lead("table"))) for _ in range(rng.randrange(1, 3)))
    if sort == "room":
        return rng.randrange(1, 4)
    return tuple(rng.randrange(2) for _ in range(rng.randrange(1, 3)))


def name_for(rng, word, ease):
    """A name of a kind that the word asks for; now and then of another one."""
    kinds = {"code": CODES, "table": TABLES, "data": DATA, "const": CONSTS}
    if rng.random() < ease:
        return rng.choice(CODES + DATA + CONSTS + TABLES)
    asked = [k for k in plain.ASKED.get(word, ()) if k in kinds]
    return rng.choice(kinds[rng.choice(asked)]) if asked else None


def one_unit(rng, name, ease=0.0, weak=0.3, own=0.3):
    """A sound unit."""
    while True:
        names = rng.sample(CODES + DATA + CONSTS + TABLES, rng.randrange(1, 5))
        pieces = []
        for x in names:
            sort = SORT[x[0]]
            if rng.random() < ease:
                sort = rng.choice(ORDER)
            if sort == "data" and rng.random() < 0.5:
                sort = "room"
            reach = "own" if rng.random() < own else rng.choice(("open", "open", "hidden"))
            force = "weak" if reach != "own" and sort != "room" and rng.random() < weak else "strong"
            body = one_body(rng, sort, lambda word: name_for(rng, word, ease))
            pieces.append(("piece", x, sort, reach, force, body))
        spares = tuple(sorted(x for x in CODES if x not in names and rng.random() < 0.2))
        starts = tuple(p[1] for p in pieces if p[2] == "code" and p[3] == "own" and rng.random() < 0.5)
        u = ("unit", name, spares, starts, tuple(pieces))
        if plain.is_unit(u) and plain.faults(u) == ():
            return u


def one_card(rng, name, needs, many=3):
    def told(x):
        sort = {"c": "code", "d": "data", "k": "cells", "t": "table"}[x[0]]
        return x, sort, 0 if sort == "code" else rng.randrange(1, 3)
    exports = sorted(rng.sample(CODES + DATA + CONSTS + TABLES, rng.randrange(many)))
    wants = sorted(rng.sample(CODES + DATA + CONSTS + TABLES, rng.randrange(many)))
    return card(name, needs, tuple(told(x) for x in exports),
                tuple(told(x) + (rng.random() < 0.3,) for x in wants))


def one_line(rng, ease=0.0, weak=0.3, own=0.3, most=5, cards=2):
    """A line of units ua, ub and so on."""
    objects = [assembled(one_unit(rng, "u" + chr(97 + k), ease, weak, own)) for k in range(rng.randrange(1, most + 1))]
    names = ["ll", "lm"][:rng.randrange(cards + 1)]
    items, archives = [], 0
    for name in names:
        items.append(("library", one_card(rng, name, tuple(x for x in names if x != name and rng.random() < 0.3))))
    while objects:
        if rng.random() < 0.4:
            items.append(item(objects.pop()))
            continue
        group = []
        for _ in range(rng.randrange(1, 3)):
            archives += 1
            many = rng.randrange(0, 3)
            group.append(archive("a" + chr(96 + archives), *[objects.pop() for _ in range(min(many, len(objects)))]))
        items.append(group[0] if len(group) == 1 else ("round", tuple(group)))
    rng.shuffle(items)
    return tuple(items)


def whole_line(rng, goal, ease=0.0):
    """A line of which nothing is missing: what is, is defined by one more object."""
    line = one_line(rng, ease, weak=0.8, own=0.5)
    told = plainlink.outcome(plainlink.naming, line, goal)
    if told[0] != "Missing":
        return line
    pieces = []
    for x in told[1]["names"]:
        sort = SORT[x[0]]
        body = {"code": (("show", 0), ("return",)), "table": (None, None)}.get(sort, (1, 1))
        pieces.append(("piece", x, sort, rng.choice(("open", "hidden")), "weak", body))
    at = rng.randrange(len(line) + 1)
    return line[:at] + (item(assembled(("unit", "fix", (), (), tuple(pieces)))),) + line[at:]


def one_goal(rng):
    return rng.choice((("program", rng.choice(CODES)), ("program", "ca"), ("library", "lz")))


def one_web(rng, most=6, rich=True):
    """A web; with few kinds of bodies, so that knots often are alike."""
    many = rng.randrange(1, most + 1)
    sorts = [rng.choice(("code", "code", "code", "const", "table", "data", "room") if rich else ("code",))
             for _ in range(many)]
    lengths = [rng.randrange(1, 3) for _ in sorts]

    def lead(word):
        if rich and rng.random() < 0.1:
            return "x"
        asked = [k for k in range(many) if sorts[k] in plain.ASKED.get(word, ())]
        return rng.choice(asked) if asked else ("x" if word == "table" else None)

    while True:
        knots = []
        for k in range(many):
            body = one_body(rng, sorts[k], lead, 3)
            if sorts[k] in ("const", "data"):
                body = (1,) * lengths[k]
            knots.append(("knot", (0, "k" + chr(97 + k)), sorts[k], body))
        roots = tuple(k for k in range(many) if rng.random() < 0.4)
        outs = tuple(k for k in roots if rng.random() < 0.4)
        web = ("web", roots, outs, tuple(knots))
        if plain.is_web(web):
            return web


def alike_web(rng, most=6):
    """A web of few kinds of bodies, all kept, so that many knots are alike."""
    many = rng.randrange(2, most + 1)
    sorts = ["code" if k < many - 2 else rng.choice(("code", "const", "table")) for k in range(many)]
    codes = [k for k in range(many) if sorts[k] == "code"] or [None]
    consts = [k for k in range(many) if sorts[k] == "const"]
    tables = [k for k in range(many) if sorts[k] == "table"]
    held = []
    for k, sort in enumerate(sorts):
        if sort != "code":
            told = rng.choice((None, codes[0]))
            held.append(("knot", (k, "a"), sort, (1,) if sort == "const" else (told,)))
            continue
        rows = [(("call", rng.choice(codes)), ("return",)), (("call", rng.choice(codes)), ("return",)),
                (("call", rng.choice(codes)), ("jump", rng.choice(codes))), (("show", 0), ("goto", 0)),
                (("show", 0), ("jump", rng.choice(codes))), (("take", 0, rng.choice(codes)), ("stop",))]
        if consts:
            rows.append((("load", 0, rng.choice(consts), 0), ("return",)))
        if tables:
            rows.append((("pick", 0, rng.choice(tables), 0), ("return",)))
        some = rng.choice((rows[:2], rows[:3], rows[3:5], rows[5:], rows))
        held.append(("knot", (k, "a"), "code", rng.choice(some)))
    outs = tuple(k for k in range(many) if rng.random() < 0.2)
    return ("web", tuple(range(many)), outs, tuple(held))


def one_bundle(rng, most=4, rows=40, often=2.5):
    """A bundle of a program, of code alone; often is how many branches bodies have, but for chance."""
    many = rng.randrange(1, most + 1)
    bodies = []
    for b in range(many):
        length = rng.randrange(1, rows + 1)
        held = []
        for n in range(length - 1):
            if rng.random() < often / length:
                other = rng.randrange(many)
                at = rng.randrange(length)
                row = rng.choice((("call", other), ("try", other, at), ("goto", at), ("if", 1, at), ("jump", other)))
                if row == ("jump", b):
                    row = ("goto", 0)
                held.append(row)
            else:
                held.append(rng.choice((("show", 0), ("set", 0, 9), ("alike", 0, 0, 1), ("leap", 1), ("call", "x"),
                                        ("load", 0, "y", 1), ("item", 0, "y", 0))))
        held.append(rng.choice((("return",), ("stop",), ("fail", 3), ("goto", rng.randrange(length)))))
        bodies.append(("body", "code", (("u", "k" + chr(97 + b)),), tuple(held)))
    wants = (("x", "code", 0, True), ("y", "data", 2, False))
    return ("bundle", "", 0, (), wants, (), (), tuple(bodies))


def full_bundle(rng, most=3, rows=6, library=False):
    """A bundle with bodies of all sorts, leads by index and by name."""
    wants = (("xc", "code", 0, True), ("xd", "data", 3, False), ("xk", "cells", 2, False), ("xt", "table", 2, False))
    sorts = ["code"] * rng.randrange(1, most + 1)
    for sort in ORDER[1:]:
        sorts += [sort] * rng.randrange(0, 3)
    many = len(sorts)
    sizes = [rng.choice((1, 2, 3, 64)) if s != "table" else rng.randrange(1, 4) for s in sorts]
    named = {"code": "xc", "data": "xd", "cells": "xk", "table": "xt"}

    def lead(word):
        asked = plain.ASKED.get(word, ())
        found = [k for k in range(many) if sorts[k] in asked] + [named[s] for s in asked if s in named]
        return rng.choice(found) if found else None

    while True:
        bodies = []
        for k, sort in enumerate(sorts):
            held = one_body(rng, sort, lead, rows)
            if sort in ("const", "data"):
                held = tuple(rng.randrange(64) for _ in range(sizes[k]))
            elif sort == "room":
                held = sizes[k]
            elif sort == "code":
                held = tuple(("goto", 0) if r == ("jump", k) else r for r in held)
            bodies.append(("body", sort, (("u", "k" + chr(97 + k)),), held))
        starts = tuple(rng.randrange(sorts.count("code")) for _ in range(rng.randrange(0, 3)))
        exports = tuple((x, rng.randrange(many)) for x in ("ea", "eb") if rng.random() < 0.4)
        name, entry = ("lz", None) if library else ("", rng.randrange(sorts.count("code")))
        bundle = ("bundle", name, entry, ("lo", "le")[:rng.randrange(3)], wants, starts, exports, tuple(bodies))
        if plain.is_bundle(bundle):
            return bundle


def small_objects(rng, names, dealt, doubles, chained):
    """Objects that define the names dealt to each, and want others; chained: each wants what the next one has."""
    objects = []
    for k, own in enumerate(dealt):
        own = own + [x for x in names if x not in own and rng.random() < doubles][:1]
        pieces = [one_small_piece(rng, x, names, doubles) for x in own]
        if chained and k + 1 < len(dealt) and rng.random() < 0.9:
            pieces[0] = ("piece", own[0], "code", "hidden", "strong", (("call", dealt[k + 1][0]), ("return",)))
        if rng.random() < 0.2:
            pieces.append(("piece", "zz", "code", "own", "strong", (("call", rng.choice(names)), ("return",))))
        spares = tuple(sorted(x for x in names if x not in own and rng.random() < 0.05))
        objects.append(assembled(("unit", "u" + chr(97 + k), spares, (), tuple(pieces))))
    return objects


def loose_line(rng, most=6, doubles=0.0, fixed=1, chained=0.5):
    """A line of small units and its goal, each name defined once but for some; now and then one is missing."""
    chained = rng.random() < chained
    many = rng.randrange(2, most + 1)
    names = ["n" + chr(97 + k) for k in range(rng.randrange(many, 2 * many + 1))]
    rng.shuffle(names)
    dealt = [[] for _ in range(many + 1)]
    for k, x in enumerate(names):
        dealt[k if k < many else rng.randrange(many + 1)].append(x)
    exports = tuple((x, "code", 0) for x in sorted(dealt.pop()))
    goal = rng.choice((("program", dealt[0][0]), ("program", rng.choice(names)), ("library", "lz")))
    objects = small_objects(rng, names, dealt, doubles, chained)
    items = [("library", card("li", (), exports))] if exports or rng.random() < 0.1 else []
    for _ in range(rng.randrange(fixed + 1)):
        items.append(item(objects.pop(0)))
    rng.shuffle(objects)
    shelves = [[] for _ in range(rng.randrange(1, 5 if chained else 7))]
    for thing in objects:
        rng.choice(shelves).append(thing)
    archives = [archive("a" + chr(97 + k), *held) for k, held in enumerate(shelves)]
    while archives:
        held = archives[:rng.choice((1, 1, 1, 1, 2))]
        archives = archives[len(held):]
        items.append(held[0] if len(held) == 1 and rng.random() < 0.9 else ("round", tuple(held)))
    rng.shuffle(items)
    return tuple(items), goal


def one_small_piece(rng, x, names, doubles):
    sort, force = "code", "strong"
    if rng.random() < doubles:
        sort, force = rng.choice((("code", "weak"), ("data", "strong"), ("room", "strong"), ("data", "weak")))
    elif rng.random() < 0.05:
        force = "weak"
    if sort == "code":
        body = tuple(("call", y) for y in rng.sample(names, rng.choice((0, 1, 1, 2)))) + (("return",),)
    else:
        body = 2 if sort == "room" else (1,)
    return ("piece", x, sort, rng.choice(("open", "hidden")), force, body)
