import random
import unittest

from onebase.errors import BadKnot, BadWeb
from onebase.webs import is_web, leads, web_of
from tests import plain, plainlink
from tests.making import one_goal, one_web, whole_line
from tests.support import (
    WEIRD, archive, calls, card, check_judge, code, item, made, near, piece, raised,
)

MAIN = ("program", "main")
LIB = ("library", "lz")


def knot(name, sort, body, m=0):
    return ("knot", (m, name), sort, body)


def rows(name, *held):
    return knot(name, "code", held)


def web(*knots, roots=(), outs=()):
    return ("web", roots, outs, knots)


WEBS = (
    web(),
    web(
        rows("a", ("call", 1), ("try", "x", 0), ("take", 0, 0), ("pick", 1, 3, 2), ("load", 0, 2, 1),
             ("item", 0, 5, 1), ("store", 0, 4, 1), ("fill", 0, 5, 1), ("jump", 0)),
        rows("b", ("load", 0, "x", 63), ("goto", 0)), knot("k", "const", (1, 2)), knot("t", "table", (0, None, "x")),
        knot("d", "data", (1, 2), 3), knot("r", "room", 2, 3), roots=(0, 1, 4), outs=(1, 4)),
)


class IsWebTest(unittest.TestCase):
    def test_webs(self):
        seen = check_judge(self, is_web, plain.is_web, WEBS)
        self.assertGreater(seen[True], 100)

    def test_made_up(self):
        for seed in range(60):
            self.assertIs(is_web(one_web(random.Random(seed))), True)
        for seed in range(12):
            for other, _ in near(one_web(random.Random(seed), 4)):
                self.assertIs(is_web(other), plain.is_web(other))

    def test_at_most_200_knots(self):
        for many in (199, 200, 201):
            knots = [rows("a" * (1 + k // 40), ("return",)) for k in range(many)]
            knots = tuple(("knot", (k, "a")) + one[2:] for k, one in enumerate(knots))
            self.assertIs(is_web(("web", (), (), knots)), many <= 200)
            self.assertIs(is_web(("web", (many - 1,), (many - 1,), knots)), many <= 200)
            self.assertIs(is_web(("web", (many,), (), knots)), False)

    def test_roots_and_outs(self):
        two = (rows("a", ("stop",)), rows("b", ("stop",)))
        for roots, outs, right in (
            ((), (), True), ((0, 1), (0,), True), ((0, 1), (0, 1), True), ((0,), (1,), False), ((1, 0), (), False),
            ((0, 0), (), False), ((0, 1), (1, 0), False), ((0, 1), (1, 1), False), ((2,), (), False), ((-1,), (), False),
            ([0], (), False), ((False,), (), False), ((), (0,), False),
        ):
            self.assertIs(is_web(web(*two, roots=roots, outs=outs)), right)

    def test_knots_once(self):
        self.assertIs(is_web(web(rows("a", ("stop",)), knot("a", "data", (1,)))), False)
        self.assertIs(is_web(web(rows("a", ("stop",)), knot("a", "data", (1,), 1))), True)

    def test_sorts_and_lengths(self):
        bodies = {"code": (("stop",),), "table": (None,) * 3, "const": (1,) * 3, "data": (1,) * 3, "room": 3}
        asking = {
            ("call", 0): "code", ("try", 0, 0): "code", ("take", 1, 0): "code", ("jump", 0): "code",
            ("pick", 0, 0, 0): "table", ("load", 0, 0, 2): "const data room", ("store", 0, 0, 2): "data room",
            ("load", 0, 0, 3): "", ("store", 0, 0, 3): "", ("item", 0, 0, 3): "const data room",
            ("fill", 0, 0, 3): "data room",
        }
        for row, sorts in asking.items():
            for sort, body in bodies.items():
                told = is_web(web(knot("x", sort, body), rows("a", row, ("stop",))))
                self.assertIs(told, sort in sorts.split(), (row, sort))
        for sort, body in bodies.items():
            self.assertIs(is_web(web(knot("x", sort, body), knot("t", "table", (0,)))), sort == "code")
        # Of slots nothing is known.
        for row in asking:
            row = tuple("x" if type(part) is int and at == (1 if row[0] in ("call", "try", "jump") else 2) else part
                        for at, part in enumerate(row))
            self.assertIs(is_web(web(rows("a", row, ("stop",)))), True, row)


class WebOfTest(unittest.TestCase):
    def test_program(self):
        u = made("u", calls("main", "f", "h", "s"), code("h", ("take", 0, "f"), ("jump", "h"), reach="own"),
                 piece("t", "table", ("main", None, "c"), "hidden"), spares=("s",))
        v = made("v", code("f", ("load", 1, "d", 2), ("store", 0, "r", 6), ("stop",)), code("main", force="weak"),
                 piece("r", "room", 7, "own"), code("go", reach="own"), starts=("go",))
        line = (item(u), ("library", card("li", (), (("c", "code", 0), ("d", "cells", 3)),
                                          (("f", "code", 0, False), ("t", "code", 0, False)))), item(v))
        self.assertEqual(web_of(line=line, goal=MAIN), ("web", (0, 3, 5), (3,), (
            ("knot", (0, "main"), "code", (("call", 3), ("call", 1), ("call", "s"), ("return",))),
            ("knot", (0, "h"), "code", (("take", 0, 3), ("jump", 1))),
            ("knot", (0, "t"), "table", (0, None, "c")),
            ("knot", (1, "f"), "code", (("load", 1, "d", 2), ("store", 0, 4, 6), ("stop",))),
            ("knot", (1, "r"), "room", 7),
            ("knot", (1, "go"), "code", (("return",),)),
        )))

    def test_library(self):
        u = made("u", calls("f", "g", "h", "f"), code("h", reach="hidden"), piece("k", "const", (1,)))
        v = made("v", calls("g", "h", "o"), code("o", reach="own"), code("q", reach="own"), starts=("q", "q"))
        self.assertEqual(web_of((item(v), item(u)), LIB), ("web", (0, 2, 3, 5), (0, 3, 5), (
            ("knot", (0, "g"), "code", (("call", 4), ("call", 1), ("return",))),
            ("knot", (0, "o"), "code", (("return",),)), ("knot", (0, "q"), "code", (("return",),)),
            ("knot", (1, "f"), "code", (("call", "g"), ("call", 4), ("call", "f"), ("return",))),
            ("knot", (1, "h"), "code", (("return",),)), ("knot", (1, "k"), "const", (1,)),
        )))

    def test_empty(self):
        self.assertEqual(web_of((), LIB), ("web", (), (), ()))

    def test_too_many(self):
        def crowd(many):
            names = [a + b for a in "abcde" for b in "abcdefghijklmnopqrstuvwxyz"]
            objects = []
            while many:
                some = min(many, 24)
                held = [code(names[k], reach="own") for k in range(some)]
                many -= some
                if not objects:
                    held[0] = code("main")
                objects.append(made("u" + chr(97 + len(objects)), *held))
            return (archive("ar", made("zz", code("zz"))),) + tuple(item(o) for o in objects)

        told = web_of(crowd(200), MAIN)
        self.assertEqual(len(told[3]), 200)
        self.assertIs(is_web(told), True)
        self.assertEqual(raised(web_of, crowd(201), MAIN), ("TooMany", {"most": 200}))
        # Definitions that were not chosen do not count.
        more = crowd(200) + (item(made("w", code("main", force="weak"))),)
        self.assertEqual(len(web_of(more, MAIN)[3]), 200)
        # The errors of naming are ahead.
        more = crowd(201) + (item(made("w", code("main"))),)
        self.assertEqual(raised(web_of, more, MAIN), ("TwoStrong", {"name": "main"}))

    def test_made_up(self):
        many = 0
        for seed in range(400):
            rng = random.Random(seed)
            goal = one_goal(rng)
            line = whole_line(rng, goal, rng.choice((0, 0, 0.05)))
            told = raised(web_of, line, goal)
            if told[0] not in ("NoLibrary", "BadGoal"):
                self.assertEqual(told, plainlink.outcome(plainlink.web_of, line, goal))
            if told[0] == "told":
                self.assertIs(is_web(told[1]), True)
                many += len(told[1][3]) > 2
        self.assertGreater(many, 100)


class LeadsTest(unittest.TestCase):
    def test_leads(self):
        self.assertEqual([leads(WEBS[1], k) for k in range(6)], [(0, 1, 2, 3, 4, 5), (), (), (0,), (), ()])
        self.assertEqual(leads(web=web(rows("a", ("goto", 0))), knot=0), ())
        self.assertEqual(leads(web(rows("a", ("jump", 0))), 0), (0,))

    def test_errors(self):
        for thing in WEIRD + tuple(other for other, _ in near(WEBS[1])):
            if not plain.is_web(thing):
                for k in (0, 99, None):
                    with self.assertRaises(BadWeb):
                        leads(thing, k)
        for k in WEIRD + (6,):
            if not (type(k) is int and 0 <= k < 6):
                with self.assertRaises(BadKnot):
                    leads(WEBS[1], k)
        with self.assertRaises(BadKnot):
            leads(WEBS[0], 0)


if __name__ == "__main__":
    unittest.main()
