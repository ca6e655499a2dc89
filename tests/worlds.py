"""Made-up worlds that link and whose scope is let, from a seeded random source."""

from onebase.codes import instruction
from onebase.images import linked
from onebase.naming import naming
from onebase.objects import assembled
from tests import plain, plainlink
from tests.support import archive, item

CODES = ("ca", "cb", "cc", "cd", "ce", "cf", "cg")
# Whoever defines one of these gives it this length, so that all that is bound has the length asked.
LENGTHS = {"da": 2, "db": 3, "ka": 1, "kb": 4, "ta": 1, "tb": 3}
NAMES = CODES + tuple(LENGTHS)
SORT = {"c": "code", "d": "data", "k": "const", "t": "table"}


def card_for(goal, line):
    """The card of a library whose plan this is, by its naming."""
    named = naming(line, goal)
    name = goal[1] if goal[0] == "library" else ""
    return ("card", name, tuple(c[1] for c in plainlink.cards_of(line)), named[5], named[4])


def one_row(rng, many, name):
    """A row; name(word) tells a name of what the word asks."""
    r, s, t = rng.randrange(4), rng.randrange(4), rng.randrange(4)
    p, q, n, c = rng.randrange(2), rng.randrange(2), rng.randrange(many), rng.randrange(64)
    word = rng.choice((
        "set", "set", "copy", "plus", "less", "ask", "show", "show", "load", "store", "item", "fill", "take",
        "take", "pick", "pick", "alike", "call", "call", "call", "call", "try", "try", "try", "leap", "leap", "jump",
        "if", "if", "goto", "return", "stop", "fail"))
    # Ends and loops are seldom, so that runs come to much else.
    if word in ("goto", "return", "stop", "jump", "fail", "leap") and rng.random() < 0.6:
        word = rng.choice(("show", "call", "take", "try"))
    x = name(word) if word in plain.ASKED else None
    k = rng.randrange(LENGTHS.get(x, 1))
    return {
        "set": ("set", r, rng.choice((c, 0, 1, 2, 63))), "copy": ("copy", r, s), "plus": ("plus", r, s),
        "less": ("less", r, s), "ask": ("ask", r), "show": ("show", r), "load": ("load", r, x, k),
        "store": ("store", r, x, k), "item": ("item", r, x, s), "fill": ("fill", r, x, s), "take": ("take", p, x),
        "pick": ("pick", p, x, s), "alike": ("alike", r, p, q), "call": ("call", x), "try": ("try", x, n),
        "leap": ("leap", p), "jump": ("jump", x), "goto": ("goto", n), "if": ("if", r, n), "return": ("return",),
        "stop": ("stop",), "fail": ("fail", min(c, 62)),
    }[word]


def one_body(rng, x, name):
    sort = SORT[x[0]]
    if sort == "code":
        many = rng.randrange(1, 7)
        last = ("return",)
        if rng.random() < 0.3:
            last = rng.choice((("stop",), ("fail", 5), ("fail", 0), ("jump", name("jump")), ("goto", 0)))
        return tuple(one_row(rng, many, name) for _ in range(many - 1)) + (last,)
    if sort == "table":
        return tuple(rng.choice((None, name("call"), name("call"))) for _ in range(LENGTHS[x]))
    return tuple(rng.randrange(64) for _ in range(LENGTHS[x]))


def one_piece(rng, x, name, own):
    sort = SORT[x[0]]
    if sort == "data" and rng.random() < 0.5:
        sort = "room"
    reach = "own" if rng.random() < own else rng.choice(("open", "open", "hidden"))
    weak = reach != "own" and sort != "room" and rng.random() < 0.5
    body = LENGTHS[x] if sort == "room" else one_body(rng, x, name)
    return ("piece", x, sort, reach, "weak" if weak else "strong", body)


def one_unit(rng, title, far, own=0.3):
    """A sound unit, some of whose names are among far, those that cards export."""
    names = rng.sample(NAMES, rng.randrange(1, 7))

    def name(word, user):
        kinds = {"code": "c", "data": "d", "room": "d", "const": "k", "cells": "k", "table": "t"}
        letters = [kinds[sort] for sort in plain.ASKED[word]]
        if word in ("call", "try", "jump", "take") and rng.random() < 0.15:
            return rng.choice(spares)
        for held, chance in ((far, 0.4), (names, 0.8)):
            known = [x for x in held if x[0] in letters]
            # Most calls go one way, so that they come to an end.
            if user[0] == "c" and rng.random() < 0.8:
                known = [x for x in known if x > user]
            if known and rng.random() < chance:
                return rng.choice(known)
        return rng.choice([x for x in NAMES if x[0] in letters])

    while True:
        # Nobody ever defines cx and cy.
        spares = tuple(sorted(x for x in CODES + ("cx", "cy") if x not in names and (x > "cg" or rng.random() < 0.3)))
        pieces = tuple(one_piece(rng, x, lambda word: name(word, x), own) for x in names)
        starts = tuple(p[1] for p in pieces if p[2] == "code" and p[3] == "own" for _ in range(rng.randrange(3)))
        u = ("unit", title, spares, starts, pieces)
        if plain.is_unit(u) and plain.faults(u) == ():
            return u


def one_fix(rng, names):
    """The object that defines what is missing; its code leads to little."""
    codes = [x for x in names if x[0] == "c"]
    pieces = []
    for x in names:
        _, _, sort, reach, force, body = one_piece(rng, x, lambda word: rng.choice(codes) if codes else "ca", 0.0)
        if sort == "code":
            body = (("show", rng.randrange(4)), rng.choice((("return",), ("return",), ("fail", 9))))
        if sort == "table" and not codes:
            body = (None,) * len(body)
        pieces.append(("piece", x, sort, reach, force, body))
    return assembled(("unit", "fix", (), (), tuple(pieces)))


def shelved(rng, objects):
    """Items with these objects: some alone, some in an archive or two, or in a round of these."""
    alone = [thing for thing in objects if rng.random() < 0.4]
    others = [thing for thing in objects if thing not in alone]
    cut = rng.randrange(len(others) + 1)
    archives = [archive("xa", *others[:cut]), archive("xb", *others[cut:])]
    groups = rng.choice((archives, [("round", tuple(archives))], archives[:1] + [("round", tuple(archives[1:]))]))
    return [item(thing) for thing in alone] + groups


def one_plan(rng, goal, cards):
    far = [e[0] for c in cards for e in c[3]]
    many = rng.choice((0, 1, 1, 2, 2))
    shelves = rng.random() < 0.4
    objects = [assembled(one_unit(rng, "u" + "abcd"[k], far)) for k in range(2 * many if shelves else many)]
    items = shelved(rng, objects) if shelves else [item(thing) for thing in objects]
    items += [("library", c) for c in cards]
    rng.shuffle(items)
    told = plainlink.outcome(plainlink.naming, tuple(items), goal)
    if told[0] == "Missing":
        items.insert(rng.randrange(len(items) + 1), item(one_fix(rng, told[1]["names"])))
    return ("plan", goal, tuple(items))


def closed(cards, names):
    """The cards of these names and of all that they need, however far."""
    while any(x not in names for n in names for x in cards[n][2]):
        names = sorted({x for n in names for x in cards[n][2]} | set(names))
    return names


def one_world(rng, most=4):
    """A world, each of whose plans can be named."""
    while True:
        cards, plans = {}, []
        titles = ["li", "lo", "a", "zz"][:rng.randrange(most)]
        rng.shuffle(titles)
        for title in titles + [None]:
            names = closed(cards, sorted(rng.sample(sorted(cards), rng.randrange(len(cards) + 1))))
            if title is None and rng.random() < 0.7:
                names = sorted(cards)
            rng.shuffle(names)
            goal = ("program", rng.choice(CODES)) if title is None else ("library", title)
            plan = one_plan(rng, goal, [cards[x] for x in names])
            if plainlink.outcome(plainlink.naming, plan[2], goal)[0] != "told":
                break
            plans.append(plan)
            if title is not None:
                cards[title] = card_for(goal, plan[2])
        else:
            return tuple(plans)


def alike_world(rng):
    """A world of a program, most of whose pieces are alike: few kinds of rows, and calls that come to an end."""
    names = ["main"] + ["p" + chr(97 + k) for k in range(rng.randrange(3, 8))]
    pieces = []
    for k, x in enumerate(names):
        rest = names[k + 1:]
        rows = [(("call", y),) for y in rng.sample(rest, min(len(rest), rng.choice((1, 2))))] if rest else []
        rows = [row for held in rows for row in held] + [("show", 0)] * rng.randrange(2)
        if k == 0:
            rows = [("call", y) for y in rest]
        pieces.append(("piece", x, "code", "open" if k == 0 else "own", "strong", tuple(rows) + (("return",),)))
    thing = assembled(("unit", "u", (), (), tuple(pieces)))
    return (("plan", ("program", "main"), (item(thing),)),)


def images_for(world):
    """The program's image, then those of the libraries, in the order of the world."""
    images = [linked(line, goal) for _, goal, line in world]
    return images[-1], tuple(images[:-1])


def one_bases(rng, images, most=4095):
    """Bases for the images of a scope, in any order, with gaps."""
    order = list(range(len(images)))
    rng.shuffle(order)
    left = most - sum(i[11][5] for i in images)
    bases, at = [0] * len(images), 1
    for k in order:
        gap = rng.randrange(min(left, 60) + 1) if rng.random() < 0.8 else rng.randrange(left + 1)
        left -= gap
        bases[k] = at + gap
        at = bases[k] + images[k][11][5]
    return tuple(bases)


def one_inputs(rng):
    return [rng.randrange(64) for _ in range(rng.randrange(6))]


# Images that nothing was linked to: of the right form, but their cells are as they happen to be.

WANTED = (("ca", "code", 0), ("da", "data", 2), ("ka", "cells", 1), ("ta", "table", 1))


def one_sense(rng):
    d, far = rng.randrange(-12, 13), rng.choice((0, rng.randrange(-40, 41), rng.randrange(-2048, 2048)))
    r, s, p, q, c = rng.randrange(4), rng.randrange(4), rng.randrange(2), rng.randrange(2), rng.randrange(64)
    long = rng.choice((1, 2, 3, 64))
    return rng.choice((
        (("set", r, rng.choice((c, 0, 1))), 3), (("copy", r, s), 3), (("plus", r, s), 3), (("less", r, s), 3),
        (("ask", r), 2), (("show", r), 2), (("load", r, far), 4), (("store", r, far), 4), (("item", r, s, long, far), 6),
        (("fill", r, s, long, far), 6), (("take", p, far), 4), (("pick", p, s, long, far), 6), (("alike", r, p, q), 4),
        (("call", d), 2), (("call", far), 3), (("jump", d), 2), (("jump", far), 3), (("if", r, d), 3),
        (("if", r, far), 4), (("leap", p), 2), (("return",), 1), (("stop",), 1), (("fail", min(c, 62)), 2),
        (("by load", r, rng.randrange(3), far), 5), (("by store", r, 0, far), 5), (("by item", r, s, long, far), 6),
        (("by fill", r, s, long, far), 6), (("by take", p, far), 4), (("by pick", p, s, long, far), 6),
        (("by call", far), 3), (("by jump", far), 3)))


def one_text(rng, slots, behind):
    """Cells of instructions, most of which aim well: slots are distances from behind the text, behind how far it goes."""
    held = [one_sense(rng) for _ in range(rng.randrange(1, 14))]
    if rng.random() < 0.9:
        held.append(rng.choice(((("return",), 1), (("return",), 1), (("jump", 0), 2), (("fail", 7), 2))))
    starts = [sum(many for _, many in held[:k]) for k in range(len(held) + 1)]
    cells = []
    for (sense, many), end in zip(held, starts[1:]):
        word = sense[0]
        if word in ("call", "jump", "if", "take"):
            aims = starts[:-1]
        elif word.startswith("by "):
            aims = [starts[-1] + k for k in slots]
        else:
            aims = range(starts[-1] + behind)
        if word in plain.ASKED or word == "if" or word.startswith("by "):
            sense = sense[:-1] + (rng.choice(aims) - end,) if aims and rng.random() < 0.95 else sense
            if many == (3 if word == "if" else 2) and not -32 <= sense[-1] <= 31:
                sense = sense[:-1] + (-1,)
        cells += instruction(sense, many)
    if rng.random() < 0.1:
        cells[rng.randrange(len(cells))] = rng.randrange(64)
    return cells, starts[:-1]


def one_image(rng, name, needs=(), others=0.2):
    """An image of this name; now and then it wants or exports something otherwise than WANTED tells."""
    def told(x, sort, many):
        if rng.random() < others:
            return rng.choice(((x, "code", 0), (x, "data", 1), (x, sort, many)))
        return x, sort, many

    wants = tuple(told(*w) + (rng.random() < 0.5,) for w in WANTED if rng.random() < 0.6)
    slots = [w for w in wants if rng.random() < 0.7]
    sizes = [0, rng.randrange(3), 2 * rng.randrange(3), 2 * len(slots), rng.randrange(3), rng.randrange(4)]
    text, begun = one_text(rng, [sizes[1] + sizes[2] + 2 * k for k in range(len(slots))], sum(sizes))
    sizes[0] = len(text)
    ends = tuple(sum(sizes[:k + 1]) for k in range(6))
    cells = tuple(text + [rng.randrange(64) for _ in range(ends[4] - len(text))])
    rows = tuple(sorted({0} | {rng.randrange(ends[0]) for _ in range(4)}))
    book = [(0, ends[0], (("u", "main"), ("u", "twin")), rows)]
    if rng.random() < 0.4 and ends[0] > 1:
        half = ends[0] // 2
        book = [(0, half, (("u", "main"),), tuple(x for x in rows if x < half)),
                (half, ends[0], (("w", "main"),), (half,))]
    spots = (ends[0],) + ends[1:3] if ends[1] > ends[0] else ends[1:3]
    book += [(a, b, (("u", "p" + chr(97 + a % 26)),), ()) for a, b in zip(spots, spots[1:]) if a < b]
    spots = ends[3:]
    book += [(a, b, (("u", "q" + chr(97 + a % 26)),), ()) for a, b in zip(spots, spots[1:]) if a < b]
    fills = tuple((k, rng.choice([rng.randrange(ends[0])] + [w[0] for w in wants]))
                  for k in range(ends[1], ends[2], 2) if rng.random() < 0.7)
    tries = tuple((k, rng.randrange(ends[0] + 1)) for k in range(ends[0] + 1) if rng.random() < 0.2)
    exports = tuple(told(*w)[:2] + (rng.choice(begun) if w[0] == "ca" else rng.randrange(ends[5]),) + (0,) for w in WANTED if rng.random() < 0.6)
    exports = tuple((x, sort, at, {"code": 0, "data": 2, "cells": 1, "table": 1}[sort] if rng.random() > others / 2
                     or sort == "code" else 3) for x, sort, at, _ in exports)
    starts = tuple(rng.choice(begun) for _ in range(rng.randrange(3)))
    held = tuple((ends[2] + 2 * k, w[0], rng.random() < 0.5) for k, w in enumerate(slots))
    return ("image", name, None if name else rng.choice(begun), needs, wants, starts, exports, held, fills, tries,
            cells, ends, tuple(book))


def one_scope(rng, others=0.2, lacking=0.2):
    """A program's image and libraries, in any order; they may be let or not, and walks may go round."""
    names = ["li", "lo", "a"][:rng.randrange(4)]
    needs = [x for x in names if rng.random() > lacking / 2]
    rng.shuffle(needs)
    libraries = []
    for x in names + ["more"][:rng.randrange(2)]:
        held = [y for y in (needs if rng.random() > lacking / 2 else names) if y != x and rng.random() < 0.5]
        libraries.append(one_image(rng, x, tuple(held), others))
    if libraries and rng.random() < lacking / 3:
        libraries.pop()
    rng.shuffle(libraries)
    return one_image(rng, "", tuple(needs), others), tuple(libraries)
