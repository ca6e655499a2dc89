"""A second reading of images: how bundles are laid out, and which values have the form of one."""

from tests import plain
from tests.plain import apart, judge, name, need, number, tuple_, word

CODE = {
    "set": 1, "copy": 2, "plus": 3, "less": 4, "ask": 5, "show": 6, "load": 7, "store": 8, "item": 9, "fill": 10,
    "take": 11, "pick": 12, "alike": 13, "leap": 20, "return": 21, "stop": 22, "fail": 23,
}
BRANCH = {"call": 14, "try": 14, "jump": 16, "goto": 16, "if": 18}
BY = {"load": 27, "store": 28, "item": 29, "fill": 30, "take": 31, "pick": 32, "call": 35, "try": 35, "jump": 37}
LEAD = {"load": 2, "store": 2, "item": 2, "fill": 2, "take": 2, "pick": 2, "call": 1, "try": 1, "jump": 1}


def lead_of(r):
    return r[LEAD[r[0]]] if r[0] in LEAD else None


def by_name(r):
    return type(lead_of(r)) is str


def one(d):
    assert -32 <= d <= 31
    return (d % 64,)


def two(d):
    return (d % 4096 // 64, d % 64)


def laid(r, long, many, aim):
    """The cells of a row; many is the length of what it leads to, aim(cells) the distance."""
    w = r[0]
    if w in ("goto", "if") or (w in BRANCH and not by_name(r)):
        head = (BRANCH[w] + long,) + ((r[1],) if w == "if" else ())
        width = two if long else one
    else:
        head = (BY[w] if by_name(r) else CODE[w],)
        width = two
        if w in ("load", "store"):
            head += (r[1], r[3]) if by_name(r) else (r[1],)
        elif w in ("item", "fill", "pick"):
            head += (r[1], r[3], many % 64)
        elif w == "take":
            head += (r[1],)
        elif w not in LEAD:
            return head + r[1:]
    size = len(head) + (1 if width is one else 2)
    return head + width(aim(size))


def image_with(bundle, long):
    """Of a bundle and a lot that holds."""
    _, title, entry, needs, wants, starts, exports, parts = bundle
    many = lambda x: plain.long(parts[x][1], parts[x][3]) if type(x) is int else dict((w[0], w[2]) for w in wants)[x]
    length = lambda x: many(x) if x is not None else 0
    sizes = {}
    for b, part in enumerate(parts):
        for n, r in enumerate(part[3] if part[1] == "code" else ()):
            sizes[b, n] = len(laid(r, (b, n) in long, length(lead_of(r)), lambda size: 0))
    start, at, ends, slots = {}, 0, [], {}
    for sort in ("code", "const", "table", "slot", "data", "room"):
        for b, part in enumerate(parts):
            if part[1] == sort:
                start[b] = at
                for n in range(len(part[3]) if sort == "code" else 0):
                    start[b, n] = at
                    at += sizes[b, n]
                at += {"code": lambda: 0, "table": lambda: 2 * len(part[3])}.get(sort, lambda: length(b))()
                start[b, "end"] = at
        for x in sorted({lead_of(r) for p in parts if p[1] == "code" for r in p[3] if by_name(r)}):
            if sort == "slot":
                slots[x] = at
                at += 2
        ends.append(at)
    cells = [0] * ends[4]
    tries, fills = [], []
    for b, part in enumerate(parts):
        if part[1] in ("const", "data"):
            cells[start[b]:start[b, "end"]] = part[3]
        for n, r in enumerate(part[3] if part[1] == "code" else ()):
            def aim(size):
                behind = start[b, n] + size
                if r[0] in ("goto", "if"):
                    return start[b, r[-1]] - behind
                x = lead_of(r)
                return (slots[x] if by_name(r) else start[x] + (r[3] if r[0] in ("load", "store") else 0)) - behind
            row = laid(r, (b, n) in long, length(lead_of(r)), aim)
            cells[start[b, n]:start[b, n] + len(row)] = row
            if r[0] == "try":
                tries.append((start[b, n] + len(row), start[b, r[2]]))
        for n, x in enumerate(part[3] if part[1] == "table" else ()):
            if x is not None:
                fills.append((start[b] + 2 * n, x if type(x) is str else start[x]))
    late = lambda x: all(r[0] in ("call", "try", "jump") for p in parts if p[1] == "code"
                         for r in p[3] if lead_of(r) == x)
    sort = lambda b: {"const": "cells", "room": "data"}.get(parts[b][1], parts[b][1])
    return (
        "image", title, None if entry is None else start[entry], needs, wants, tuple(start[b] for b in starts),
        tuple((x, sort(b), start[b], length(b)) for x, b in exports),
        tuple((at, x, late(x)) for x, at in slots.items()), tuple(sorted(fills)), tuple(sorted(tries)), tuple(cells),
        tuple(ends), tuple(
            (start[b], start[b, "end"], part[2],
             tuple(start[b, n] for n in range(len(part[3]))) if part[1] == "code" else ())
            for b, part in enumerate(parts)))


def below(x, end):
    number(x, 0, end - 1)


@judge
def is_image(thing):
    tuple_(thing, 13, 13)
    word(thing[0], "image")
    _, title, entry, needs, wants, starts, exports, slots, fills, tries, cells, ends, book = thing
    if type(title) is not str or title != "":
        name(title)
    plain.needs_(needs, title)
    plain.wants_(wants)
    for c in tuple_(cells):
        number(c, 0, 63)
    for e in tuple_(ends, 6, 6):
        number(e, 0, 2000)
    need(list(ends) == sorted(ends) and ends[4] == len(cells))
    if title == "":
        below(entry, ends[0])
    else:
        need(entry is None)
    for at in tuple_(starts):
        below(at, ends[0])
    for e in tuple_(exports):
        tuple_(e, 4, 4)
        plain.told_piece(e[0], e[1], e[3])
        below(e[2], ends[5])
    plain.ascending([e[0] for e in exports])
    for s in tuple_(slots):
        tuple_(s, 3, 3)
        name(s[1])
        need(s[1] in [w[0] for w in wants])
        need(type(s[0]) is int and type(s[2]) is bool)
    need([s[0] for s in slots] == list(range(ends[2], ends[3], 2)) and (ends[3] - ends[2]) % 2 == 0)
    plain.ascending([s[1] for s in slots])
    for f in tuple_(fills):
        tuple_(f, 2, 2)
        number(f[0], ends[1], ends[2] - 1)
        need((f[0] - ends[1]) % 2 == 0)
        if type(f[1]) is str:
            need(f[1] in [w[0] for w in wants])
        else:
            below(f[1], ends[0])
    plain.ascending([f[0] for f in fills])
    for t in tuple_(tries):
        for at in tuple_(t, 2, 2):
            number(at, 0, ends[0])
    plain.ascending([t[0] for t in tries])
    covered = []
    for e in tuple_(book):
        tuple_(e, 4, 4)
        number(e[0], 0, ends[5])
        number(e[1], e[0] + 1, ends[5])
        covered += range(e[0], e[1])
        for end in (ends[0], ends[2]):
            need(not e[0] < end < e[1])
        for pair in tuple_(e[2], 1):
            for x in tuple_(pair, 2, 2):
                name(x)
        apart(e[2])
        for at in tuple_(e[3]):
            number(at, e[0], e[1] - 1)
        plain.ascending(e[3])
        need(e[3][:1] == (e[0],) if e[0] < ends[0] else e[3] == ())
    need(covered == list(range(ends[2])) + list(range(ends[3], ends[5])))
