import collections
import random
import unittest

from onebase.errors import BadMember, BadName, BadNaming
from onebase.naming import leads_to, naming
from tests import plainlink
from tests.making import one_goal, one_line, whole_line
from tests.support import (
    WEIRD, archive, calls, card, code, item, library, made, near, piece, raised,
)

MAIN = ("program", "main")
LIB = ("library", "lz")
WORDS = {
    "call": ("call", "x"), "try": ("try", "x", 0), "jump": ("jump", "x"), "take": ("take", 0, "x"),
    "pick": ("pick", 0, "x", 0), "load": ("load", 0, "x", 1), "item": ("item", 0, "x", 0),
    "store": ("store", 0, "x", 1), "fill": ("fill", 0, "x", 0),
}
ASKED = {
    "call": "code", "try": "code", "jump": "code", "take": "code", "pick": "table", "load": "cells data",
    "item": "cells data", "store": "data", "fill": "data",
}
BODIES = {"code": (("return",),), "table": (None, None), "const": (1, 2), "data": (1, 2), "room": 2}


def line_of(*things):
    return tuple(item(o) for o in things)


def named(*things, goal=MAIN):
    return naming(line_of(*things), goal)


class NamingErrorsTest(unittest.TestCase):
    def check(self, told, name, line, goal=MAIN):
        self.assertEqual(raised(naming, line, goal), (name, told))

    def test_two_strong(self):
        a = made("a", code("main"), code("y"), code("x", reach="hidden"))
        b = made("b", code("y"), piece("x", "data", (1,)))
        self.check({"name": "x"}, "TwoStrong", line_of(a, b))
        self.check({"name": "y"}, "TwoStrong", line_of(made("a", code("main"), code("y")), b))
        # Own and weak pieces and rooms are none of these.
        for one in (code("y", reach="own"), code("y", force="weak")):
            self.assertEqual(raised(naming, line_of(made("a", code("main"), one), made("b", code("y"))), MAIN)[0], "told")
        rooms = [made(x, piece("r", "room", 2)) for x in "abc"]
        self.assertEqual(raised(naming, line_of(*rooms, made("m", code("main"))), MAIN)[0], "told")
        rooms.append(made("d", piece("r", "data", (1,))))
        self.assertEqual(raised(naming, line_of(*rooms, made("m", code("main"))), MAIN)[0], "told")
        # Those that stay in archives are none either.
        line = (item(made("a", code("main"), code("y"))), archive("one", b))
        self.assertEqual(raised(naming, line, MAIN)[0], "told")

    def test_two_sorts(self):
        for one in BODIES:
            for other in BODIES:
                told = raised(naming, line_of(
                    made("a", piece("x", one, BODIES[one]), code("main")),
                    made("b", piece("x", other, BODIES[other], force="strong" if other == "room" else "weak"))), MAIN)
                alike = one == other or {one, other} == {"data", "room"}
                self.assertEqual(told[0], "told" if alike else "TwoSorts")
        a = made("a", piece("y", "data", (1,)), piece("x", "data", (1,)), code("main"))
        b = made("b", piece("y", "const", (1,), force="weak"), piece("x", "const", (1,), force="weak"))
        self.check({"name": "x"}, "TwoSorts", line_of(a, b))

    def test_two_strong_ahead_of_two_sorts(self):
        a = made("a", code("z"), piece("x", "data", (1,)))
        b = made("b", code("z"), piece("x", "const", (1,), force="weak"))
        self.check({"name": "z"}, "TwoStrong", line_of(a, b))

    def test_two_sorts_ahead_of_missing(self):
        a = made("a", calls("z", "gone"), piece("x", "data", (1,)))
        b = made("b", piece("x", "const", (1,), force="weak"))
        self.check({"name": "x"}, "TwoSorts", line_of(a, b))

    def test_missing(self):
        a = made("a", calls("f", "zz", "b", "s", "o"), calls("g", "b", "aa"), code("o", reach="own"), spares=("s",))
        self.check({"names": ("aa", "b", "main", "zz")}, "Missing", line_of(a))
        self.check({"names": ("aa", "b", "zz")}, "Missing", line_of(a), LIB)
        self.check({"names": ("main",)}, "Missing", ())
        self.assertEqual(raised(naming, (), LIB)[0], "told")
        # Cards define on both sides, but never the entry.
        has = library("li", (), (("aa", "code", 0), ("b", "code", 0), ("main", "code", 0)))
        for line in ((has,) + line_of(a), line_of(a) + (has,)):
            self.check({"names": ("main", "zz")}, "Missing", line)

    def test_missing_ahead_of_the_entry(self):
        a = made("a", piece("main", "data", (1,)), calls("f", "gone"))
        self.check({"names": ("gone",)}, "Missing", line_of(a))

    def test_entry_of_another_sort(self):
        for sort in BODIES:
            told = raised(naming, line_of(made("a", piece("main", sort, BODIES[sort]))), MAIN)
            if sort == "code":
                self.assertEqual(told[0], "told")
            else:
                self.assertEqual(told, ("WrongSort", {"unit": None, "piece": None, "name": "main"}))

    def test_entry_ahead_of_uses(self):
        a = made("a", piece("main", "data", (1,)), calls("f", "k"), piece("k", "data", (1,)))
        self.check({"unit": None, "piece": None, "name": "main"}, "WrongSort", line_of(a))

    def test_sorts_of_pieces(self):
        for word, row in WORDS.items():
            for sort, body in BODIES.items():
                line_sort = {"const": "cells", "room": "data"}.get(sort, sort)
                for line in (
                    line_of(made("a", code("main", row, ("stop",))), made("b", piece("x", sort, body))),
                    line_of(made("a", code("main", row, ("stop",)), piece("x", sort, body, "hidden"))),
                ):
                    told = raised(naming, line, MAIN)
                    if line_sort in ASKED[word].split():
                        self.assertEqual(told[0], "told")
                    else:
                        self.assertEqual(told, ("WrongSort", {"unit": "a", "piece": "main", "name": "x"}))

    def test_sorts_of_cards(self):
        for word, row in WORDS.items():
            for sort, many in (("code", 0), ("table", 2), ("cells", 2), ("data", 2)):
                line = line_of(made("a", code("main", row, ("stop",)))) + (library("li", (), (("x", sort, many),)),)
                told = raised(naming, line, MAIN)
                if sort in ASKED[word].split():
                    self.assertEqual(told[0], "told")
                else:
                    self.assertEqual(told, ("WrongSort", {"unit": "a", "piece": "main", "name": "x"}))

    def test_tables(self):
        table = made("a", code("main"), piece("t", "table", (None, "x")))
        for sort, body in BODIES.items():
            told = raised(naming, line_of(table, made("b", piece("x", sort, body))), MAIN)
            if sort == "code":
                self.assertEqual(told[0], "told")
            else:
                self.assertEqual(told, ("WrongSort", {"unit": "a", "piece": "t", "name": "x"}))

    def test_too_short(self):
        for word, row in (("load", ("load", 0, "x", 5)), ("store", ("store", 0, "x", 5))):
            a = made("a", code("main", row, ("stop",)))
            for many in (4, 5, 6):
                for other in (
                    item(made("b", piece("x", "data", (1,) * many))), item(made("b", piece("x", "room", many))),
                    library("li", (), (("x", "data", many),)),
                ):
                    told = raised(naming, (item(a), other), MAIN)
                    if many > 5:
                        self.assertEqual(told[0], "told")
                    else:
                        self.assertEqual(told, ("TooShort", {"unit": "a", "piece": "main", "name": "x"}))
        # A wrong sort is ahead of what is too short; items never are.
        line = line_of(made("a", code("main", ("store", 0, "x", 5), ("stop",))), made("b", piece("x", "const", (1,))))
        self.check({"unit": "a", "piece": "main", "name": "x"}, "WrongSort", line)
        line = line_of(made("a", code("main", ("item", 0, "x", 3), ("stop",))), made("b", piece("x", "const", (1,))))
        self.assertEqual(raised(naming, line, MAIN)[0], "told")

    def test_short_of_the_chosen_one(self):
        a = made("a", code("main", ("load", 0, "x", 2), ("stop",)), piece("x", "room", 9))
        b = made("b", piece("x", "data", (1, 2)))
        self.check({"unit": "a", "piece": "main", "name": "x"}, "TooShort", line_of(a, b))
        line = (item(made("a", code("main", ("load", 0, "x", 2), ("stop",)))),
                library("li", (), (("x", "data", 3),)), library("lo", (), (("x", "code", 0),)))
        self.assertEqual(raised(naming, line, MAIN)[0], "told")
        self.check({"unit": "a", "piece": "main", "name": "x"}, "WrongSort", (line[0], line[2], line[1]))

    def test_uses_by_members_pieces_names_words(self):
        code_x, data_y = code("x"), piece("y", "data", (1, 2))
        b = made("b", code_x, data_y)
        wrong_x, short_y, wrong_y = ("load", 0, "x", 0), ("load", 0, "y", 7), ("call", "y")

        def first(*rows_of_pieces):
            pieces = [code(n, *rows, ("stop",)) for n, rows in zip(("main", "aa"), rows_of_pieces)]
            kind, told = raised(naming, line_of(b, made("u", *pieces), made("t", calls("q", "y"))), MAIN)
            return kind, told["unit"], told["piece"], told["name"]

        self.assertEqual(first((short_y, wrong_x)), ("WrongSort", "u", "main", "x"))
        self.assertEqual(first((short_y, wrong_y)), ("WrongSort", "u", "main", "y"))
        self.assertEqual(first((short_y, ("pick", 0, "y", 0))), ("TooShort", "u", "main", "y"))
        self.assertEqual(first((short_y,), (wrong_x,)), ("TooShort", "u", "main", "y"))
        self.assertEqual(first((), (wrong_x,)), ("WrongSort", "u", "aa", "x"))
        self.assertEqual(first((), ()), ("WrongSort", "t", "q", "y"))

    def test_own_pieces_are_not_asked_here(self):
        a = made("a", calls("main", "x"), code("x", reach="own"))
        self.assertEqual(raised(naming, line_of(a, made("b", piece("x", "data", (1,)))), MAIN)[0], "told")


class NamingTest(unittest.TestCase):
    def test_chosen(self):
        def winner(*pieces):
            return dict(named(made("m", code("main")), *[made("abcd"[k], p) for k, p in enumerate(pieces)])[3])["x"]

        weak, strong = piece("x", "data", (1,), force="weak"), piece("x", "data", (1,))
        room = lambda many: piece("x", "room", many)
        self.assertEqual(winner(weak, strong), ("piece", 2))
        self.assertEqual(winner(strong, weak), ("piece", 1))
        self.assertEqual(winner(room(64), strong, room(3)), ("piece", 2))
        self.assertEqual(winner(room(2), room(5), room(5)), ("piece", 2))
        self.assertEqual(winner(room(9), room(5)), ("piece", 1))
        self.assertEqual(winner(weak, room(1)), ("piece", 2))
        self.assertEqual(winner(weak, weak), ("piece", 1))
        self.assertEqual(winner(weak, strong, weak, room(4)), ("piece", 2))

    def test_whole_program(self):
        u = made("u", calls("main", "f", "s", "v"), code("o", reach="own"), spares=("s", "v"))
        p = made("p", code("f", ("load", 0, "d", 1), ("call", "c"), ("call", "v"), ("stop",)),
                 piece("r", "room", 3, "hidden"), spares=("v",))
        li = ("library", card("li", (), (("c", "code", 0), ("d", "data", 2)), (("f", "data", 9, True), ("r", "data", 1, False))))
        lo = library("lo", (), (("c", "table", 1), ("q", "code", 0)))
        told = naming((item(u), li, item(p), lo), MAIN)
        self.assertEqual(told, ("naming", MAIN, (u, p), (
            ("c", ("slot", "code", 0, False)), ("d", ("slot", "data", 2, False)), ("f", ("piece", 1)),
            ("main", ("piece", 0)), ("r", ("piece", 1)), ("s", ("slot", "code", 0, True)),
            ("v", ("slot", "code", 0, True)),
        ), (("c", "code", 0, False), ("d", "data", 2, False), ("s", "code", 0, True), ("v", "code", 0, True)),
            (("f", "code", 0),)))

    def test_whole_library(self):
        a = made("a", calls("f", "g", "h"), calls("h", "s", reach="hidden"), piece("k", "const", (1, 2)), spares=("s",))
        b = made("b", code("g", ("load", 0, "k", 0), ("call", "s"), ("stop",), force="weak"), spares=("s",))
        self.assertEqual(named(a, b, goal=LIB), ("naming", LIB, (a, b), (
            ("f", ("piece", 0)), ("g", ("piece", 1)), ("h", ("piece", 0)), ("k", ("piece", 0)),
            ("s", ("slot", "code", 0, True)),
        ), (("g", "code", 0, False), ("k", "cells", 2, False), ("s", "code", 0, True)),
            (("f", "code", 0), ("g", "code", 0), ("k", "cells", 2))))

    def test_spare_of_all_that_lead(self):
        one = made("o", calls("main", "s"), spares=("s",))
        also = made("p", calls("f", "s"), spares=("s",))
        wants = made("q", calls("g", "s"))
        has = library("li", (), (("s", "code", 0),))
        for things, spare in (((one,), True), ((one, also), True), ((one, wants), False), ((wants, one, also), False)):
            line = line_of(*things) + (has,)
            if one is things[0]:
                self.assertEqual(dict(naming(line, MAIN)[3])["s"], ("slot", "code", 0, spare))
            self.assertEqual(dict((w[0], w) for w in naming(line, LIB)[4])["s"], ("s", "code", 0, spare))
        # A library that has it itself asks for it by slot all the same.
        line = line_of(one, also, made("r", code("s")))
        self.assertEqual(dict((w[0], w) for w in naming(line, LIB)[4])["s"], ("s", "code", 0, True))
        self.assertEqual(naming(line, MAIN)[4], ())

    def test_exports(self):
        u = made("u", code("main"), code("f"), code("h", reach="hidden"), code("o", reach="own"),
                 piece("t", "table", (None,)), piece("r", "room", 7), piece("d", "data", (1,), force="weak"))
        self.assertEqual(named(u, goal=LIB)[5], (
            ("d", "data", 1), ("f", "code", 0), ("main", "code", 0), ("r", "data", 7), ("t", "table", 1)))
        self.assertEqual(named(u)[5], ())
        wants = tuple((x, "code", 0, True) for x in ("f", "h", "o", "x"))
        line = line_of(u) + (("library", card("li", (), (), wants)),)
        self.assertEqual(naming(line, MAIN)[5], (("f", "code", 0),))
        # What is chosen decides on the reach.
        weak = made("w", piece("h", "code", (("return",),), "open", "weak"))
        self.assertNotIn("h", [e[0] for e in named(u, weak, goal=LIB)[5]])

    def test_names_that_nothing_defines_are_told_by_the_first_card(self):
        u = made("u", calls("main", "s"), spares=("s",))
        for line, told in (
            ((item(u),), ("slot", "code", 0, True)),
            ((item(u), library("li", (), (("s", "code", 0),))), ("slot", "code", 0, True)),
        ):
            self.assertEqual(dict(naming(line, MAIN)[3])["s"], told)
        line = (item(u), library("li", (), (("s", "data", 3),)))
        self.assertEqual(raised(naming, line, MAIN), ("WrongSort", {"unit": "u", "piece": "main", "name": "s"}))
        u = made("u", code("main", ("load", 0, "x", 0), ("stop",)))
        for first, other in (("cells", "data"), ("data", "cells")):
            line = (library("li", (), (("x", first, 4),)), item(u), library("lo", (), (("x", other, 5),)))
            self.assertEqual(dict(naming(line, MAIN)[3])["x"], ("slot", first, 4, False))
            self.assertEqual(naming(line, MAIN)[4], (("x", first, 4, False),))

    def test_made_up(self):
        kinds = collections.Counter()
        for seed in range(1200):
            rng = random.Random(seed)
            goal = one_goal(rng)
            ease = rng.choice((0, 0, 0.05))
            line = whole_line(rng, goal, ease) if seed % 2 else one_line(rng, ease)
            told = raised(naming, line, goal)
            kinds[told[0]] += 1
            if told[0] not in ("NoLibrary", "BadGoal"):
                self.assertEqual(told, plainlink.outcome(plainlink.naming, line, goal))
        for kind in ("told", "Missing", "TwoStrong", "TwoSorts", "WrongSort", "TooShort"):
            self.assertGreater(kinds[kind], 0, kind)


class LeadsToTest(unittest.TestCase):
    def setUp(self):
        self.a = made("a", calls("main", "f", "o", "s", "h"), code("o", reach="own"), code("h", reach="hidden"),
                      spares=("s",))
        self.b = made("b", calls("f", "f", "h"), piece("o", "data", (1,)), code("h", reach="open", force="weak"))

    def test_program(self):
        told = named(self.a, self.b)
        for m, x, place in (
            (None, "main", ("piece", 0)), (0, "main", ("piece", 0)), (0, "f", ("piece", 1)), (0, "o", ("piece", 0)),
            (0, "s", ("slot",)), (0, "h", ("piece", 0)), (1, "f", ("piece", 1)), (1, "o", ("piece", 1)),
            (1, "h", ("piece", 0)),
        ):
            self.assertEqual(leads_to(told, m, x), place, (m, x))
            self.assertEqual(leads_to(named=told, m=m, x=x), place)

    def test_library(self):
        told = named(self.a, self.b, goal=LIB)
        for m, x, place in (
            (0, "main", ("slot",)), (0, "f", ("slot",)), (0, "o", ("piece", 0)), (0, "s", ("slot",)),
            (0, "h", ("piece", 0)), (1, "f", ("slot",)), (1, "o", ("slot",)), (1, "h", ("piece", 0)),
        ):
            self.assertEqual(leads_to(told, m, x), place, (m, x))

    def test_bad_naming(self):
        told = named(self.a, self.b)
        for thing in WEIRD + (
            told[:5], told + ((),), list(told), ("name",) + told[1:], told[:1] + (("program", ""),) + told[2:],
            told[:2] + (list(told[2]),) + told[3:], told[:2] + ((self.a, 0),) + told[3:],
            told[:2] + ((("object", "a", (), (), ()),),) + told[3:],
        ) + tuple(told[:k] + ([],) + told[k + 1:] for k in (3, 4, 5)):
            for m, x in ((0, "main"), (9, "main"), (None, 0)):
                with self.assertRaises(BadNaming):
                    leads_to(thing, m, x)
        for other, _ in near(self.a):
            if not plainlink.plain.is_object(other):
                with self.assertRaises(BadNaming):
                    leads_to(told[:2] + ((other, self.b),) + told[3:], 0, "main")

    def test_bad_member(self):
        for m in WEIRD:
            if m is not None and not (type(m) is int and 0 <= m < 2):
                for x in ("main", "nothing", None):
                    with self.assertRaises(BadMember):
                        leads_to(named(self.a, self.b), m, x)
        with self.assertRaises(BadMember):
            leads_to(named(self.a, self.b, goal=LIB), None, "main")
        with self.assertRaises(BadMember):
            leads_to(named(goal=LIB), 0, "main")

    def test_bad_name(self):
        for goal in (MAIN, LIB):
            told = named(self.a, self.b, goal=goal)
            for x in WEIRD + ("b", "q", "mains", "open"):
                for m in (0, 1):
                    with self.assertRaises(BadName):
                        leads_to(told, m, x)
            for m, x in ((1, "main"), (1, "s")):
                with self.assertRaises(BadName):
                    leads_to(told, m, x)
        for x in WEIRD + ("f", "h"):
            with self.assertRaises(BadName):
                leads_to(named(self.a, self.b), None, x)

    def test_made_up(self):
        many = 0
        for seed in range(200):
            rng = random.Random(seed)
            goal = one_goal(rng)
            told = raised(naming, whole_line(rng, goal), goal)
            if told[0] != "told":
                continue
            for m, o in enumerate(told[1][2]):
                names = {p[1] for p in plainlink.pieces_of(o)} | plainlink.led(o)
                for x in sorted(names):
                    self.assertEqual(leads_to(told[1], m, x), plainlink.leads_to(told[1], m, x))
                    many += 1
        self.assertGreater(many, 300)


if __name__ == "__main__":
    unittest.main()
