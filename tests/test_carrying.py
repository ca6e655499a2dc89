import random
import unittest

from onebase.bundles import bundle_of
from onebase.carrying import carries, covers
from onebase.images import image_of, image_with, linked
from onebase.naming import naming
from onebase.readback import is_image, read_back
from onebase.webs import web_of
from onebase.widths import branches, grown
from tests import plain, plainlink
from tests.making import one_goal, whole_line
from tests.support import WEIRD, calls, code, item, library, made, near, piece, raised, unit
from tests.test_readback import IMAGE

MAIN = ("program", "main")
LIB = ("library", "lz")
UNIT = unit("u", code("main", ("call", "get"), ("show", 0), ("return",)),
            code("get", ("load", 0, "pair", 1), ("return",), reach="own"), piece("pair", "const", (5, 7), "own"))
LINE = (item(made("u", *UNIT[4])),)


def plain_covers(line, goal, thing):
    """The second reading of covers, of a line that can be named: point by point."""
    if not plain.is_bundle(thing):
        return False
    _, title, entry, needs, wants, starts, exports, parts = thing
    named, web = naming(line, goal), web_of(line, goal)
    taken, table = named[2], dict(named[3])
    pair = [(taken[k[1][0]][1], k[1][1]) for k in web[3]]
    knot = {p: k for k, p in enumerate(pair)}
    chosen = lambda x: knot[taken[table[x][1]][1], x]
    lots = [[knot.get(p) for p in part[2]] for part in parts]
    if None in [k for lot in lots for k in lot]:
        return False
    # (a), (b)
    if (title, needs, wants) != ("" if goal[0] == "program" else goal[1], tuple(
            i[1][1] for i in line if i[0] == "library"), named[4]):
        return False
    for part, lot in zip(parts, lots):
        if any(web[3][k][2] != part[1] for k in lot):
            return False
        if part[1] in ("data", "room") and (len(lot) > 1 or sum(lot[0] in other for other in lots) > 1):
            return False
    # (c), (d)
    places = set()
    for b, (part, lot) in enumerate(zip(parts, lots)):
        for k in lot:
            told = web[3][k][3]
            if part[1] in ("const", "data", "room"):
                if told != part[3]:
                    return False
                continue
            if len(told) != len(part[3]):
                return False
            for mine, other in zip(told, part[3]):
                if part[1] == "table":
                    mine, other = ("item of", mine), ("item of", other)
                if not like(mine, other, lots, b, k, places):
                    return False
    # (e)
    if goal[0] == "program" and chosen(goal[1]) not in lots[entry]:
        return False
    due = [knot[o[1], x] for o in taken for x in o[3]]
    if len(due) != len(starts) or any(k not in lots[b] for k, b in zip(due, starts)):
        return False
    if [x for x, _ in exports] != [e[0] for e in named[5]]:
        return False
    for x, b in exports:
        if chosen(x) not in lots[b]:
            return False
        if parts[b][1] == "code":
            places.add((chosen(x), b))
    return len({k for k, _ in places}) == len(places) == len({b for _, b in places})


def like(mine, other, lots, b, k, places):
    if mine[0] == "jump" and other == ("goto", 0) and type(mine[1]) is int and mine[1] in lots[b]:
        return True
    if mine == ("goto", 0) and other[0] == "jump" and type(other[1]) is int and k in lots[other[1]]:
        return True
    at = 1 if mine[0] in ("call", "try", "jump", "item of") else 2 if mine[0] in (
        "load", "store", "item", "fill", "take", "pick") else None
    if at is None or mine[0] != other[0] or mine[at] is None or other[at] is None:
        return mine == other
    if mine[:at] + mine[at + 1:] != other[:at] + other[at + 1:] or type(mine[at]) is not type(other[at]):
        return False
    if type(mine[at]) is str:
        return mine == other
    if mine[0] in ("take", "item of"):
        places.add((mine[at], other[at]))
    return mine[at] in lots[other[at]]


def loosened(rng, bundle):
    """The bundle with a body once more, or a lead exchanged: often it still covers."""
    parts = list(bundle[7])
    b = rng.randrange(len(parts))
    way = rng.randrange(4)
    if way == 0 and len(parts[b][2]) > 1:
        # The pair in the lot of one more body of this kind, or moved there.
        where = rng.choice([k for k in range(len(parts)) if parts[k][1] == parts[b][1]])
        some = rng.choice(parts[b][2])
        parts[where] = parts[where][:2] + (tuple(dict.fromkeys(parts[where][2] + (some,))),) + parts[where][3:]
    elif way == 1:
        # A body twice, the second with some of the pairs.
        some = tuple(p for p in parts[b][2] if rng.random() < 0.6) or parts[b][2][:1]
        return bundle[:7] + (with_more(parts, b, some),)
    elif way == 2:
        parts[b] = parts[b][:2] + (parts[b][2][1:] or parts[b][2],) + parts[b][3:]
    elif parts[b][1] == "code":
        n = rng.randrange(len(parts[b][3]))
        r = parts[b][3][n]
        lead = [at for at, x in enumerate(r) if at and r[0] in plain.ASKED and at == (
            1 if r[0] in ("call", "try", "jump") else 2) and type(x) is int]
        if lead:
            r = r[:lead[0]] + (rng.randrange(len(parts)),) + r[lead[0] + 1:]
        elif r == ("goto", 0):
            r = ("jump", rng.randrange(len(parts)))
        parts[b] = parts[b][:3] + (parts[b][3][:n] + (r,) + parts[b][3][n + 1:],)
    return bundle[:7] + (tuple(parts),)


def with_more(parts, b, lot):
    """The bodies with a body once more behind itself, all leads moved along."""
    moved = lambda x: x + (x > b) if type(x) is int else x

    def change(part):
        return part[:3] + (plainlink.changed(part[1], part[3], lambda _, x: moved(x)),)

    held = [change(part) for part in parts]
    return tuple(held[:b + 1] + [held[b][:2] + (lot,) + held[b][3:]] + held[b + 1:])


class CarryingTest(unittest.TestCase):
    def test_by_hand(self):
        self.assertTrue(carries(LINE, MAIN, IMAGE))
        self.assertTrue(carries(line=LINE, goal=MAIN, thing=image_with(read_back(IMAGE), ((0, 0),))))
        self.assertTrue(covers(line=LINE, goal=MAIN, thing=read_back(IMAGE)))
        self.assertFalse(covers(LINE, MAIN, IMAGE))
        self.assertFalse(carries(LINE, MAIN, read_back(IMAGE)))
        wrong = IMAGE[:10] + ((14, 0) + IMAGE[10][2:],) + IMAGE[11:]
        self.assertTrue(is_image(wrong))
        self.assertIs(carries(LINE, MAIN, wrong), False)

    def test_no_cell_is_free(self):
        for at in range(12):
            for c in range(64):
                if c != IMAGE[10][at]:
                    self.assertIs(carries(LINE, MAIN, IMAGE[:10] + (
                        IMAGE[10][:at] + (c,) + IMAGE[10][at + 1:],) + IMAGE[11:]), False)

    def test_twins(self):
        get = (("load", 0, "pair", 1), ("return",))
        line = (item(made("u", code("main", ("call", "get"), ("call", "twin"), ("return",)), code("get", *get, reach="own"),
                          piece("pair", "const", (5, 7), "own"), code("twin", *get, reach="own"))),)
        bundle = bundle_of(line, MAIN)
        self.assertEqual(bundle[7][1][2], (("u", "get"), ("u", "twin")))
        self.assertTrue(covers(line, MAIN, bundle))
        rows = (("load", 0, 3, 1), ("return",))
        pair = ("body", "const", (("u", "pair"),), (5, 7))
        main = lambda one, other: ("body", "code", (("u", "main"),), (("call", one), ("call", other), ("return",)))
        one = lambda *names: ("body", "code", tuple(("u", x) for x in names), rows)
        for parts, right in (
            ((main(1, 2), one("get"), one("twin")), True), ((main(2, 1), one("get"), one("twin")), False),
            ((main(2, 1), one("get", "twin"), one("twin", "get")), True), ((main(2, 2), one("get"), one("twin", "get")), True),
            ((main(1, 1), one("get"), one("twin")), False), ((main(1, 2), one("get"), one("get")), False),
            ((main(1, 2), one("get"), one("twin", "main")), False), ((main(1, 2), one("get"), one("twin", "no")), False),
        ):
            self.assertIs(covers(line, MAIN, bundle[:7] + (parts + (pair,),)), right, parts)
            self.assertEqual(plain_covers(line, MAIN, bundle[:7] + (parts + (pair,),)), right)
            self.assertIs(carries(line, MAIN, image_of(bundle[:7] + (parts + (pair,),))), right)

    def test_places(self):
        """What takes tell has one body, and no two have the same."""
        f = (("show", 1), ("return",))
        line = (item(made("u", code("main", ("take", 0, "f"), ("take", 1, "g"), ("pick", 0, "t", 0), ("return",)),
                          code("f", *f, reach="own"), code("g", *f, reach="own"), piece("t", "table", ("f", None, "g"), "own"))),)
        bundle = bundle_of(line, MAIN)
        self.assertEqual([p[2] for p in bundle[7][1:3]], [(("u", "f"), ("u", "g"))] * 2)
        main = lambda one, other: ("body", "code", (("u", "main"),), (
            ("take", 0, one), ("take", 1, other), ("pick", 0, 3, 0), ("return",)))
        both = ("body", "code", (("u", "f"), ("u", "g")), f)
        table = lambda one, other: ("body", "table", (("u", "t"),), (one, None, other))
        for one, other, mine, yours, right in (
            (1, 2, 1, 2, True), (2, 1, 2, 1, True), (1, 1, 1, 1, False), (1, 2, 2, 1, False), (1, 2, 1, 1, False), (2, 2, 1, 2, False),
        ):
            thing = bundle[:7] + ((main(one, other), both, both, table(mine, yours)),)
            self.assertIs(covers(line, MAIN, thing), right)
            self.assertEqual(plain_covers(line, MAIN, thing), right)
        # An export is a place, too.
        for line in ((item(made("u", code("f", *f), code("g", *f))),), (item(made("u", code("f", *f), code("g", ("take", 0, "h"), *f), code(
                "h", *f, reach="own"))),)):
            bundle = bundle_of(line, LIB)
            self.assertTrue(covers(line, LIB, bundle))
            self.assertFalse(covers(line, LIB, bundle[:6] + ((("f", 0), ("g", 0)),) + bundle[7:]))
            for shown in ((("f", 1), ("g", 0)), (("f", 0),), (("f", 0), ("g", 1), ("h", 0)), ()):
                thing = bundle[:6] + (shown,) + bundle[7:]
                self.assertIs(covers(line, LIB, thing), plain_covers(line, LIB, thing))

    def test_gotos_and_jumps(self):
        line = (item(made("u", code("main", ("call", "f"), ("call", "g"), ("jump", "main")), code("f", ("show", 0), ("jump", "g"), reach="own"),
                          code("g", ("show", 0), ("goto", 0), reach="own"))),)
        bundle = bundle_of(line, MAIN)
        self.assertEqual(bundle[7][1][2:], ((("u", "f"), ("u", "g")), (("show", 0), ("goto", 0))))
        main = ("body", "code", (("u", "main"),), (("call", 1), ("call", 2), ("goto", 0)))
        f, g = (("u", "f"),), (("u", "g"),)
        for mine, one, yours, other, right in (
            (f, ("jump", 2), g, ("goto", 0), True), (f, ("goto", 0), g, ("goto", 0), False), (f + g, ("jump", 2), g, ("goto", 0), True),
            (f, ("jump", 2), g + f, ("jump", 1), False), (f + g, ("goto", 0), g, ("jump", 1), True), (f, ("jump", 2), g, ("goto", 1), False),
            (f + g, ("jump", 2), f + g, ("jump", 1), True), (f, ("jump", 0), g, ("goto", 0), False), (f, ("jump", 2), g, ("jump", 0), False),
        ):
            thing = bundle[:7] + ((main, ("body", "code", mine, (("show", 0), one)), ("body", "code", yours, (("show", 0), other))),)
            self.assertEqual(plain_covers(line, MAIN, thing), right, (mine, one, yours, other))
            self.assertIs(covers(line, MAIN, thing), right)

    def test_values_near_bundles(self):
        """Of each value near a linked bundle the judge tells what the second reading tells."""
        lib = library("lo", (), (("s", "code", 0), ("y", "data", 2)), (("main", "code", 0, True),))
        lines = ((LINE, MAIN), (LINE, LIB), ((lib, item(made(
            "a", code("main", ("call", "s"), ("store", 1, "y", 1), ("take", 0, "o"), ("jump", "main")),
            code("o", ("return",), reach="own"), piece("r", "room", 2, "own"), piece("t", "table", ("o", None), "own"),
            starts=()))), MAIN))
        right = 0
        for line, goal in lines:
            bundle = bundle_of(line, goal)
            for other, by_kind in near(bundle):
                told = covers(line, goal, other)
                self.assertIs(told, plain_covers(line, goal, other), other)
                self.assertFalse(told and by_kind)
                right += told
            for thing in WEIRD:
                self.assertIs(covers(line, goal, thing), False)
                self.assertIs(carries(line, goal, thing), False)
            image = linked(line, goal)
            for other, by_kind in near(image):
                if other != image:
                    told = carries(line, goal, other)
                    self.assertFalse(told and by_kind)
                    self.assertTrue(not told or plain_covers(line, goal, read_back(other)))
        self.assertGreater(right, 3)

    def test_made_up(self):
        seen = {True: 0, False: 0}
        for seed in range(500):
            rng = random.Random(seed)
            goal = one_goal(rng)
            line = whole_line(rng, goal)
            told = raised(linked, line, goal)
            if told[0] != "told":
                self.assertEqual(raised(covers, line, goal, None), told)
                self.assertEqual(raised(carries, line, goal, None), told)
                continue
            self.assertTrue(carries(line, goal, told[1]))
            bundle = bundle_of(line, goal)
            self.assertTrue(covers(line, goal, bundle))
            for _ in range(6):
                thing = loosened(rng, bundle) if bundle[7] else bundle
                right = plain_covers(line, goal, thing)
                self.assertIs(covers(line, goal, thing), right, thing)
                if thing != bundle:
                    seen[right] += 1
                if right:
                    bundle = thing
                    more = grown(bundle, tuple(b for b in branches(bundle) if rng.random() < 0.3))
                    self.assertTrue(carries(line, goal, image_with(bundle, more)))
                elif plain.is_bundle(thing):
                    self.assertFalse(carries(line, goal, image_of(thing)))
        self.assertGreater(min(seen.values()), 200, seen)

    def test_errors_of_naming_ahead(self):
        line = (item(made("u", calls("main", "f"))),)
        for f in (covers, carries):
            for told, bad, goal in (
                (("BadLine", {}), list(line), 0), (("BadGoal", {}), line, 0), (("Missing", {"names": ("f",)}), line, MAIN),
                (("NoLibrary", {"name": "lo"}), line + (library("li", ("lo",)),), MAIN),
            ):
                self.assertEqual(raised(f, bad, goal, IMAGE), told)


if __name__ == "__main__":
    unittest.main()
