import random
import unittest

from onebase.bundles import bundle_of, is_bundle
from onebase.carrying import carries, covers
from onebase.folding import told
from onebase.images import image_of, linked
from onebase.loose import loose
from onebase.naming import naming
from onebase.parting import classes, is_even
from onebase.webs import web_of
from tests import plainlink, worlds
from tests.making import ORDER, one_goal, whole_line
from tests.support import WEIRD, calls, code, item, library, made, near, piece, raised, weird_near
from tests.test_carrying import plain_covers

MAIN = ("program", "main")
LIB = ("library", "lz")
GET = (("load", 0, "pair", 1), ("return",))
TWINS = (item(made("u", code("main", ("call", "get"), ("call", "twin"), ("return",)), code("get", *GET, reach="own"),
                   piece("pair", "const", (5, 7), "own"), code("twin", *GET, reach="own"))),)


def knots_due(web, lots):
    """The knots that have bodies."""
    seen = plainlink.told(web)
    return sorted(k for lot in lots for k in ([x for x in lot if x in seen] or lot[:1]))


def plain_loose(line, goal, lots, order):
    """The second reading of loose, of what is right."""
    named, web = naming(line, goal), web_of(line, goal)
    seen = plainlink.told(web)
    bodies = [k for sort in ORDER for k in order if web[3][k][2] == sort]
    lot_of = {k: lot for lot in lots for k in lot}
    main = lambda k: bodies.index(([x for x in lot_of[k] if x in seen] or lot_of[k])[0])
    units = [o[1] for o in named[2]]

    def lead(word, x):
        if type(x) is not int:
            return x
        return bodies.index(x) if word in ("take", "table") else main(x)

    parts = []
    for at, k in enumerate(bodies):
        _, _, sort, body = web[3][k]
        body = plainlink.changed(sort, body, lead)
        if sort == "code":
            body = tuple(("goto", 0) if r == ("jump", at) else r for r in body)
        parts.append(("body", sort, tuple((units[web[3][x][1][0]], web[3][x][1][1]) for x in lot_of[k]), body))
    knot = {(units[m], x): k for k, (_, (m, x), _, _) in enumerate(web[3])}
    chosen = lambda x: knot[units[dict(named[3])[x][1]], x]
    shown = tuple((x, bodies.index(chosen(x)) if sort == "code" else main(chosen(x))) for x, sort, _ in named[5])
    starts = tuple(main(knot[o[1], x]) for o in named[2] for x in o[3])
    needs = tuple(c[1] for c in plainlink.cards_of(line))
    return ("bundle", goal[1] if goal[0] == "library" else "", main(chosen(goal[1])) if goal[0] == "program" else None,
            needs, named[4], starts, shown, tuple(parts))


class LooseTest(unittest.TestCase):
    def test_twins(self):
        web = web_of(TWINS, MAIN)
        self.assertEqual(classes(web), ((0,), (1, 3), (2,)))
        self.assertEqual(loose(line=TWINS, goal=MAIN, lots=classes(web), order=(0, 1, 2)), bundle_of(TWINS, MAIN))
        told = loose(TWINS, MAIN, ((0,), (1,), (2,), (3,)), (2, 3, 0, 1))
        self.assertEqual([part[2] for part in told[7]], [(("u", "twin"),), (("u", "main"),), (("u", "get"),), (("u", "pair"),)])
        self.assertEqual(told[2], 1)
        self.assertEqual(told[7][1][3], (("call", 2), ("call", 0), ("return",)))
        self.assertTrue(carries(TWINS, MAIN, image_of(told)))
        # The order of the lots tells nothing; that of bodies does.
        self.assertEqual(loose(TWINS, MAIN, ((1, 3), (2,), (0,)), (1, 0, 2))[7][0][2], (("u", "get"), ("u", "twin")))

    def test_told_ones_have_bodies_of_their_own(self):
        f = (("show", 1), ("jump", "f"))
        line = (item(made("u", code("main", ("take", 0, "h"), ("call", "f"), ("call", "g"), ("return",)), code("f", *f, reach="own"),
                          code("g", ("show", 1), ("goto", 0), reach="own"), code("h", *f, reach="own"), code("k", ("call", "h"), ("return",)))),)
        web = web_of(line, LIB)
        self.assertEqual((told(web), classes(web)), ((0, 3, 4), ((0,), (1, 2, 3), (4,))))
        held = loose(line, LIB, classes(web), (4, 3, 0))
        both = (("u", "f"), ("u", "g"), ("u", "h"))
        self.assertEqual(held[7], (
            ("body", "code", (("u", "k"),), (("call", 1), ("return",))), ("body", "code", both, (("show", 1), ("goto", 0))),
            ("body", "code", (("u", "main"),), (("take", 0, 1), ("call", 1), ("call", 1), ("return",)))))
        self.assertEqual(held[6], (("k", 0), ("main", 2)))
        # Apart from it f has a body, to which its own jump is a goto 0; h jumps there.
        held = loose(line, LIB, ((0,), (1,), (2,), (3,), (4,)), (4, 3, 2, 1, 0))
        self.assertEqual([part[3] for part in held[7][1:4]], [(("show", 1), ("jump", 3)), (("show", 1), ("goto", 0)), (("show", 1), ("goto", 0))])
        self.assertTrue(covers(line, LIB, held))

    def test_all_even_partings(self):
        """FACT: it covers; with classes, in ascending order, it is the linked bundle."""
        many, kinds = 0, {}
        for seed in range(400):
            rng = random.Random(seed)
            goal = one_goal(rng)
            line = whole_line(rng, goal)
            if raised(web_of, line, goal)[0] != "told":
                continue
            web = web_of(line, goal)
            if len(plainlink.kept(web)) > 7:
                continue
            for lots in plainlink.even_partings(web):
                order = knots_due(web, lots)
                if lots == classes(web):
                    self.assertEqual(loose(line, goal, lots, tuple(order)), bundle_of(line, goal))
                rng.shuffle(order)
                lots = list(lots)
                rng.shuffle(lots)
                held = loose(line, goal, tuple(lots), tuple(order))
                self.assertEqual(held, plain_loose(line, goal, tuple(lots), order))
                self.assertTrue(is_bundle(held))
                self.assertTrue(covers(line, goal, held))
                self.assertTrue(plain_covers(line, goal, held))
                kinds[len(lots) < len(plainlink.kept(web))] = kinds.get(len(lots) < len(plainlink.kept(web)), 0) + 1
                many += 1
        self.assertGreater(many, 200)
        self.assertGreater(min(kinds.values()), 15, kinds)

    def test_drawn_worlds(self):
        """Of each plan, with a body for each kept knot and with the classes, in any order."""
        for seed in range(100):
            rng = random.Random(seed)
            for _, goal, line in worlds.one_world(rng):
                web = web_of(line, goal)
                for lots in (classes(web), tuple((k,) for k in plainlink.kept(web))):
                    self.assertTrue(is_even(web, lots))
                    order = knots_due(web, lots)
                    rng.shuffle(order)
                    held = loose(line, goal, lots, tuple(order))
                    self.assertEqual(held, plain_loose(line, goal, lots, order))
                    self.assertTrue(covers(line, goal, held))
                    if raised(image_of, held)[0] == "told":
                        self.assertTrue(carries(line, goal, image_of(held)))

    def test_least_of_all(self):
        """[92]: no bundle that covers has fewer bodies, or a smaller sum of lengths; lots lie in classes."""
        length = lambda part: part[3] if part[1] == "room" else len(part[3])
        for seed in range(200):
            rng = random.Random(seed)
            goal = one_goal(rng)
            line = whole_line(rng, goal)
            if raised(linked, line, goal)[0] != "told":
                continue
            web = web_of(line, goal)
            least = bundle_of(line, goal)
            if len(plainlink.kept(web)) > 6:
                continue
            for lots in plainlink.even_partings(web):
                held = loose(line, goal, lots, tuple(knots_due(web, lots)))
                self.assertGreaterEqual(len(held[7]), len(least[7]))
                self.assertGreaterEqual(sum(map(length, held[7])), sum(map(length, least[7])))
                for part in held[7]:
                    self.assertEqual(sum(set(part[2]) <= set(other[2]) for other in least[7]) > 0, True)

    def test_wrong_inputs(self):
        lots, order = ((0,), (1, 3), (2,)), (0, 1, 2)
        web = web_of(TWINS, MAIN)
        for thing in WEIRD + (((0,), (1, 3)), ((0,), (3, 1), (2,)), ((0, 1), (3,), (2,)), ((0,), (1, 3), (2,), ()), ((0,), (1, 3), (2,), (2,))):
            self.assertEqual(raised(loose, TWINS, MAIN, thing, None), ("BadLots", {}))
            if thing is not None:
                self.assertEqual(raised(loose, TWINS, MAIN, lots, thing), ("BadOrder", {}))
        for other, _ in near(lots):
            due = "BadOrder" if is_even(web, other) else "BadLots"
            self.assertEqual(raised(loose, TWINS, MAIN, other, None), (due, {}))
        for other in weird_near(lots):
            self.assertEqual(raised(loose, TWINS, MAIN, other, None), ("BadOrder" if is_even(web, other) else "BadLots", {}))
        for other, by_kind in near(order):
            right = type(other) is tuple and all(type(x) is int for x in other) and sorted(other) == [0, 1, 2]
            self.assertEqual(raised(loose, TWINS, MAIN, lots, other)[0], "told" if right else "BadOrder", other)
        for other in ((0, 3, 2), (0, 1, 2, 3), (0, 1), (0, 1, 1), (0, True, 2), (0, 1, 2.0)):
            self.assertEqual(raised(loose, TWINS, MAIN, lots, other), ("BadOrder", {}))
        self.assertEqual(raised(loose, (item(made("u", calls("main", "f"))),), MAIN, None, None), ("Missing", {"names": ("f",)}))
        self.assertEqual(raised(loose, TWINS + TWINS, MAIN, None, None), ("BadLine", {}))
        self.assertEqual(raised(loose, TWINS, None, None, None), ("BadGoal", {}))
        self.assertEqual(raised(loose, (library("li", ("lo",)),), MAIN, None, None), ("NoLibrary", {"name": "lo"}))


if __name__ == "__main__":
    unittest.main()
