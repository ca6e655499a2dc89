import random
import unittest

from onebase.bundles import bundle_of, is_bundle
from onebase.folding import bodies, folded, main
from onebase.webs import web_of
from tests import plain, plainlink
from tests.making import one_bundle, one_goal, whole_line
from tests.support import card, check_judge, code, item, library, made, piece, raised

MAIN = ("program", "main")
LIB = ("library", "lz")
ORDER = ("code", "const", "table", "data", "room")

HAND = ("bundle", "", 0, (), (), (), (), (
    ("body", "code", (("u", "main"),), (("call", 1), ("show", 0), ("return",))),
    ("body", "code", (("u", "get"),), (("load", 0, 2, 1), ("return",))),
    ("body", "const", (("u", "pair"),), (5, 7))))


def body(sort, held, *names):
    return ("body", sort, tuple(("u", x) for x in names or ("a",)), held)


RICH = ("bundle", "lz", None, ("lo", "le"), (
    ("c", "code", 0, True), ("d", "data", 2, False), ("k", "cells", 1, False), ("t", "table", 2, False)), (0, 1, 0), (
    ("f", 0), ("r", 5)), (
        body("code", (
            ("call", 1), ("try", "c", 0), ("take", 0, 0), ("pick", 0, 3, 1), ("pick", 0, "t", 1), ("load", 0, 2, 1),
            ("load", 0, "d", 1), ("item", 0, "k", 1), ("store", 0, "d", 1), ("fill", 0, 4, 1), ("store", 0, 5, 1),
            ("jump", 1)), "f", "g"),
        body("code", (("call", 1), ("goto", 0))), body("const", (1, 2)), body("table", (0, None, "c")),
        body("data", (1, 2)), body("room", 2)))


class IsBundleTest(unittest.TestCase):
    def test_bundles(self):
        seen = check_judge(self, is_bundle, plain.is_bundle, (HAND, RICH, ("bundle", "li", None, (), (), (), (), ())))
        self.assertGreater(seen[True], 100)

    def test_programs_have_an_entry_libraries_none(self):
        for name, entry, right in (
            ("", 0, True), ("", 1, True), ("", None, False), ("", 2, False), ("", -1, False), ("", False, False),
            ("li", None, True), ("li", 0, False), ("open", None, False),
        ):
            self.assertIs(is_bundle(HAND[:1] + (name, entry) + HAND[3:]), right)
        code_alone = (body("code", (("stop",),)),)
        for entry in (-1, 0, 1):
            self.assertIs(is_bundle(("bundle", "", entry, (), (), (), (), code_alone)), entry == 0)
            self.assertIs(is_bundle(("bundle", "", 0, (), (), (entry,), (), code_alone)), entry == 0)
            self.assertIs(is_bundle(("bundle", "", 0, (), (), (), (("a", entry),), code_alone)), entry == 0)

    def test_names_and_needs(self):
        for name, needs, right in (
            ("li", ("lo",), True), ("li", ("lo", "li"), False), ("li", ("b", "a"), True), ("li", ("a", "a"), False),
            ("li", ["a"], False), ("li", ("",), False),
        ):
            self.assertIs(is_bundle(("bundle", name, None, needs) + RICH[4:]), right)

    def test_sorts_stand_in_order(self):
        held = {"code": (("stop",),), "const": (1,), "table": (None,), "data": (1,), "room": 1}
        for one in ORDER:
            for other in ORDER:
                told = is_bundle(("bundle", "li", None, (), (), (), (), (body(one, held[one]), body(other, held[other]))))
                self.assertIs(told, ORDER.index(one) <= ORDER.index(other))

    def test_lots(self):
        for lot, right in (
            ((), False), ((("u", "a"),), True), ((("u", "a"), ("u", "a")), False), ((("v", "a"), ("u", "a")), True),
            ((("u", "a", "b"),), False), ((["u", "a"],), False), ([("u", "a")], False), ((("u", ""),), False),
        ):
            self.assertIs(is_bundle(("bundle", "li", None, (), (), (), (), (("body", "data", lot, (1,)),))), right)
        # A pair may stand in the lots of two bodies.
        self.assertIs(is_bundle(("bundle", "li", None, (), (), (), (), (body("data", (1,)),) * 2)), True)

    def test_no_jump_to_itself(self):
        def with_row(row):
            return ("bundle", "li", None, (), (("x", "code", 0, False),), (), (), (
                body("code", (row,)), body("code", (("stop",),))))

        for row, right in (
            (("jump", 0), False), (("jump", 1), True), (("jump", "x"), True), (("goto", 0), True), (("jump", 2), False),
            (("jump", -1), False), (("jump", "y"), False),
        ):
            self.assertIs(is_bundle(with_row(row)), right)

    def test_leads_by_name(self):
        rows = {
            ("call", "x"): "code", ("try", "x", 0): "code", ("take", 0, "x"): "code", ("pick", 0, "x", 0): "table",
            ("load", 0, "x", 1): "cells data", ("item", 0, "x", 0): "cells data", ("store", 0, "x", 1): "data",
            ("fill", 0, "x", 0): "data", ("load", 0, "x", 2): "", ("store", 0, "x", 2): "",
        }
        for row, sorts in rows.items():
            for sort, many in (("code", 0), ("table", 2), ("cells", 2), ("data", 2)):
                told = is_bundle(("bundle", "li", None, (), (("x", sort, many, False),), (), (), (
                    body("code", (row, ("stop",))),)))
                self.assertIs(told, sort in sorts.split(), (row, sort))
        for sort, many in (("code", 0), ("table", 2), ("cells", 2)):
            told = is_bundle(("bundle", "li", None, (), (("x", sort, many, False),), (), (), (body("table", ("x",)),)))
            self.assertIs(told, sort == "code")

    def test_exports_and_starts(self):
        for exports, right in (
            ((("a", 0), ("b", 0)), True), ((("b", 0), ("a", 0)), False), ((("a", 0), ("a", 1)), False),
            ((("a", 5),), True), ((("a", 6),), False), ((("a", -1),), False), ((["a", 0],), False), ([("a", 0)], False),
            ((("a", True),), False),
        ):
            self.assertIs(is_bundle(RICH[:6] + (exports,) + RICH[7:]), right)
        for starts, right in (((), True), ((1, 0, 1), True), ((2,), False), ((6,), False), ([0], False), ((None,), False)):
            self.assertIs(is_bundle(RICH[:5] + (starts,) + RICH[6:]), right)

    def test_at_most_200_bodies(self):
        for many in (200, 201):
            self.assertIs(is_bundle(("bundle", "li", None, (), (), (), (), (body("room", 1),) * many)), many == 200)

    def test_made_up(self):
        for seed in range(40):
            self.assertIs(is_bundle(thing=one_bundle(random.Random(seed))), True)


class BundleOfTest(unittest.TestCase):
    def test_example(self):
        u = made("u", code("main", ("call", "get"), ("show", 0), ("return",)),
                 code("get", ("load", 0, "pair", 1), ("return",), reach="own"), piece("pair", "const", (5, 7), "own"))
        self.assertEqual(bundle_of(line=(item(u),), goal=MAIN), HAND)

    def test_folded_knots_have_the_pairs_of_all(self):
        u = made("u", code("main", ("call", "get"), ("call", "twin"), ("return",)),
                 code("get", ("load", 0, "pair", 1), ("return",), reach="own"), piece("pair", "const", (5, 7), "own"),
                 code("twin", ("load", 0, "other", 1), ("return",)), piece("other", "const", (5, 7), "hidden"),
                 code("lost", reach="own"))
        self.assertEqual(bundle_of((item(u),), MAIN)[7], (
            ("body", "code", (("u", "main"),), (("call", 1), ("call", 1), ("return",))),
            ("body", "code", (("u", "get"), ("u", "twin")), (("load", 0, 2, 1), ("return",))),
            ("body", "const", (("u", "pair"), ("u", "other")), (5, 7))))

    def test_program_with_cards(self):
        u = made("u", piece("d", "data", (3,)), piece("r", "room", 2, "own"), piece("t", "table", ("f", "x"), "hidden"),
                 code("main", ("pick", 0, "t", 0), ("fill", 0, "r", 0), ("call", "x"), ("call", "s"), ("stop",)),
                 code("bb", ("show", 1), ("return",), reach="own"), spares=("s",), starts=("bb", "bb"))
        v = made("v", code("f", ("show", 1), ("return",)), code("ff", ("store", 0, "d", 0), ("jump", "ff"), reach="own"),
                 code("aa", ("call", "ff"), ("return",), reach="own"), starts=("aa",))
        line = (item(v), ("library", card("lo", (), (("x", "code", 0),), (("d", "data", 1, False), ("f", "code", 0, True)))),
                item(u), library("li"))
        self.assertEqual(bundle_of(line, MAIN), (
            "bundle", "", 3, ("lo", "li"), (("s", "code", 0, True), ("x", "code", 0, False)), (2, 0, 0),
            (("d", 5), ("f", 0)), (
                ("body", "code", (("v", "f"), ("u", "bb")), (("show", 1), ("return",))),
                ("body", "code", (("v", "ff"),), (("store", 0, 5, 0), ("goto", 0))),
                ("body", "code", (("v", "aa"),), (("call", 1), ("return",))),
                ("body", "code", (("u", "main"),), (
                    ("pick", 0, 4, 0), ("fill", 0, 6, 0), ("call", "x"), ("call", "s"), ("stop",))),
                ("body", "table", (("u", "t"),), (0, "x")), ("body", "data", (("u", "d"),), (3,)),
                ("body", "room", (("u", "r"),), 2))))

    def test_library(self):
        u = made("u", code("f", ("show", 0), ("return",)), code("g", ("show", 0), ("return",)),
                 code("h", ("call", "f"), ("call", "o"), ("return",), reach="hidden"),
                 code("o", ("show", 0), ("return",), reach="own"), piece("k", "const", (1,)), piece("l", "const", (1,)),
                 code("st", ("call", "h"), ("return",), reach="own"), starts=("st",))
        self.assertEqual(bundle_of((item(u),), LIB), (
            "bundle", "lz", None, (), (("f", "code", 0, False),), (3,), (("f", 0), ("g", 1), ("k", 4), ("l", 4)), (
                ("body", "code", (("u", "f"), ("u", "g"), ("u", "o")), (("show", 0), ("return",))),
                ("body", "code", (("u", "f"), ("u", "g"), ("u", "o")), (("show", 0), ("return",))),
                ("body", "code", (("u", "h"),), (("call", "f"), ("call", 0), ("return",))),
                ("body", "code", (("u", "st"),), (("call", 2), ("return",))),
                ("body", "const", (("u", "k"), ("u", "l")), (1,)))))
        self.assertEqual(bundle_of((), LIB), ("bundle", "lz", None, (), (), (), (), ()))

    def test_jumps_to_itself_become_gotos(self):
        u = made("u", code("main", ("show", 0), ("jump", "main")), code("f", ("show", 0), ("jump", "main"), reach="own"),
                 code("g", ("show", 1), ("jump", "f"), reach="own"), starts=("f", "g"))
        self.assertEqual(bundle_of((item(u),), MAIN)[2:], (0, (), (), (0, 1), (), (
            ("body", "code", (("u", "main"), ("u", "f")), (("show", 0), ("goto", 0))),
            ("body", "code", (("u", "g"),), (("show", 1), ("jump", 0))))))
        # By slot a jump stays a jump.
        told = bundle_of((item(made("u", code("f", ("jump", "f")))),), LIB)
        self.assertEqual(told[7], (("body", "code", (("u", "f"),), (("jump", "f"),)),))

    def test_told_twins(self):
        u = made("u", code("main", ("take", 0, "b"), ("take", 1, "c"), ("call", "a"), ("jump", "c")),
                 code("a", ("ask", 0), ("jump", "a"), reach="own"), code("b", ("ask", 0), ("jump", "a"), reach="own"),
                 code("c", ("ask", 0), ("goto", 0), reach="own"))
        lot = (("u", "a"), ("u", "b"), ("u", "c"))
        self.assertEqual(bundle_of((item(u),), MAIN)[7], (
            ("body", "code", (("u", "main"),), (("take", 0, 1), ("take", 1, 2), ("call", 1), ("jump", 1))),
            ("body", "code", lot, (("ask", 0), ("goto", 0))), ("body", "code", lot, (("ask", 0), ("goto", 0)))))

    def test_made_up(self):
        rich = 0
        for seed in range(500):
            rng = random.Random(seed)
            goal = one_goal(rng)
            line = whole_line(rng, goal, rng.choice((0, 0, 0.05)))
            told = raised(bundle_of, line, goal)
            if told[0] != "told":
                self.assertEqual(told, raised(web_of, line, goal))
                continue
            bundle = told[1]
            self.assertIs(is_bundle(bundle), True)
            self.assertTrue(plain.is_bundle(bundle))
            self.check_bundle(bundle, line, goal)
            rich += len(bundle[7]) > 2
        self.assertGreater(rich, 80)

    def check_bundle(self, bundle, line, goal):
        named = plainlink.naming(line, goal)
        web = web_of(line, goal)
        thin, lots, first = folded(web), bodies(web), main(web)
        at = [k for sort in ORDER for k in range(len(thin[3])) if thin[3][k][2] == sort]
        pair = lambda k: (named[2][web[3][k][1][0]][1], web[3][k][1][1])
        place = {lots[k][0]: n for n, k in enumerate(at)}
        number = {web[3][k][1]: k for k in range(len(web[3]))}
        self.assertEqual(bundle[1], "" if goal[0] == "program" else goal[1])
        self.assertEqual(bundle[3], tuple(c[1] for c in plainlink.cards_of(line)))
        self.assertEqual(bundle[4], named[4])
        self.assertEqual(bundle[5], tuple(
            place[first[number[(m, x)]]] for m, o in enumerate(named[2]) for x in o[3]))
        chosen = lambda x: number[(dict(named[3])[x][1], x)]
        self.assertEqual(bundle[6], tuple(
            (x, place[chosen(x) if sort == "code" else first[chosen(x)]]) for x, sort, _ in named[5]))
        if goal[0] == "program":
            self.assertEqual(bundle[2], place[first[chosen(goal[1])]])
        for n, k in enumerate(at):
            _, sort, lot, held = bundle[7][n]
            self.assertEqual((sort, lot), (thin[3][k][2], tuple(pair(j) for j in lots[k][1])))
            plainly = plainlink.changed(sort, thin[3][k][3], lambda _, x: at.index(x) if type(x) is int else x)
            if sort == "code":
                plainly = tuple(("goto", 0) if r == ("jump", n) else r for r in plainly)
            self.assertEqual(held, plainly)

    def test_too_many(self):
        def crowd(many):
            things = []
            while many:
                some = min(many, 24)
                held = [code("p" + chr(97 + k), ("show", k % 4), ("return",), reach="own") for k in range(some)]
                many -= some
                if not things:
                    held[0] = code("main")
                things.append(item(made("u" + chr(97 + len(things)), *held)))
            return tuple(things)

        self.assertEqual(len(bundle_of(crowd(200), MAIN)[7]), 1)
        self.assertEqual(raised(bundle_of, crowd(201), MAIN), ("TooMany", {"most": 200}))


if __name__ == "__main__":
    unittest.main()
