import unittest

from onebase.errors import BadGoal, BadLine
from onebase.lines import is_card, is_goal, is_line
from onebase.naming import naming
from onebase.taking import members
from onebase.webs import web_of
from onebase.bundles import bundle_of
from tests import plain
from tests.support import (
    WEIRD, archive, calls, card, check_judge, code, item, library, made, near, piece, raised,
)

A = made("a", calls("main", "f"))
B = made("b", code("f"), piece("k", "const", (1, 2), "own"))
C = made("c", code("g", ("load", 0, "d", 1), ("return",)), piece("d", "data", (1, 2), "own"))
FAULTY = made("x", code("g", ("load", 0, "d", 2), ("return",)), piece("d", "data", (1, 2), "own"))
CARD = card("li", ("lo", "le"), (("f", "code", 0), ("t", "table", 16)), (("d", "data", 64, False), ("e", "code", 0, True)))

LINES = (
    (),
    (item(A), archive("one", B, C), library("li")),
    (("round", (archive("one", B), archive("two"))), item(A), ("round", ()), archive("three", C)),
)

CARDS = (
    CARD,
    card("li"),
    card("li", (), (("a", "cells", 1), ("b", "data", 64)), (("a", "table", 1, True), ("b", "cells", 64, False))),
)

TAKING_LINES = (members, naming, web_of, bundle_of)


class LinesTest(unittest.TestCase):
    def test_lines(self):
        seen = check_judge(self, is_line, plain.is_line, LINES)
        self.assertGreater(seen[True], 30)

    def test_line_of_cards(self):
        check_judge(self, is_line, plain.is_line, [(("library", CARD), library("lo"))])

    def test_units_once(self):
        for two in (
            (item(A), item(A)), (item(A), archive("one", A)), (archive("one", A, A),),
            (archive("one", A), ("round", (archive("two", A),))),
            (item(B), item(made("b", code("q")))),
        ):
            self.assertIs(is_line(two), False)
        self.assertIs(is_line((item(A), archive("one", B), ("round", (archive("two", C),)))), True)

    def test_archives_and_cards_once(self):
        one = archive("one")
        self.assertIs(is_line((one, archive("two"))), True)
        for two in ((one, one), (one, ("round", (one,))), (("round", (one, one)),), (("round", (one,)), ("round", (one,)))):
            self.assertIs(is_line(two), False)
        self.assertIs(is_line((library("li"), library("li"))), False)
        self.assertIs(is_line((library("li"), library("lo"))), True)
        # An archive, a library and a unit may share a name.
        self.assertIs(is_line((item(A), archive("a"), library("a"))), True)

    def test_sound_units_alone(self):
        for wrong in ((item(FAULTY),), (archive("one", FAULTY),), (("round", (archive("one", B, FAULTY),)),)):
            self.assertIs(is_line(wrong), False)

    def test_rounds_hold_archives_alone(self):
        for part in (item(A), ("round", ()), library("li"), A):
            self.assertIs(is_line((("round", (part,)),)), False)
        self.assertIs(is_line((("round", archive("one")),)), False)
        self.assertIs(is_line((A,)), False)
        self.assertIs(is_line(item(A)), False)


class GoalsTest(unittest.TestCase):
    def test_goals(self):
        check_judge(self, is_goal, plain.is_goal, (("program", "main"), ("library", "li")))
        for thing in (("program", ""), ("library", ""), ("program", "open"), ("program",), ("programs", "a")):
            self.assertIs(is_goal(thing), False)


class CardsTest(unittest.TestCase):
    def test_cards(self):
        check_judge(self, is_card, plain.is_card, CARDS)

    def test_lengths(self):
        for sort in ("code", "table", "cells", "data", "const", "room", ""):
            low, high = {"code": (0, 0), "table": (1, 16), "cells": (1, 64), "data": (1, 64)}.get(sort, (9, 0))
            for many in range(-1, 67):
                self.assertIs(is_card(card("li", (), (("a", sort, many),))), low <= many <= high)
                self.assertIs(is_card(card("li", (), (), (("a", sort, many, True),))), low <= many <= high)

    def test_needs(self):
        for needs, right in (
            ((), True), (("b", "a"), True), (("a", "a"), False), (("li",), False), (("a", "li"), False), (["a"], False),
        ):
            self.assertIs(is_card(thing=card("li", needs)), right)
        self.assertIs(is_card(card("")), False)

    def test_ascending(self):
        a, b = ("a", "code", 0), ("b", "code", 0)
        for parts, right in (((a, b), True), ((b, a), False), ((a, a), False), ((a, ("a", "data", 1)), False)):
            self.assertIs(is_card(card("li", (), parts)), right)
            self.assertIs(is_card(card("li", (), (), tuple(p + (False,) for p in parts))), right)


class LineErrorsTest(unittest.TestCase):
    def test_bad_line_first(self):
        for thing in WEIRD + (item(A), (item(FAULTY),), (A,), [item(A)]):
            if plain.is_line(thing):
                continue
            for f in TAKING_LINES:
                for goal in (("program", "main"), None, ("library", "li")):
                    with self.assertRaises(BadLine):
                        f(thing, goal)

    def test_bad_goal_next(self):
        line = (item(A), library("li", ("no",)), item(B))
        for goal in WEIRD + (["program", "main"], ("program",), ("library", "li"), ("library", "open")):
            for f in TAKING_LINES:
                with self.assertRaises(BadGoal):
                    f(line, goal)

    def test_library_of_a_card(self):
        line = (item(A), library("li"), item(B))
        for f in TAKING_LINES:
            self.assertEqual(raised(f, line, ("library", "li")), ("BadGoal", {}))
            self.assertEqual(raised(f, line, ("library", "lo"))[0], "told")
            self.assertEqual(raised(f, line=line, goal=("program", "main"))[0], "told")
            # A program's entry may be called as a card is.
            entry = (item(made("e", code("li"))), library("li"))
            self.assertEqual(raised(f, entry, ("program", "li"))[0], "told")

    def test_no_library(self):
        for f in TAKING_LINES:
            line = (library("li", ("lo",)), item(A), library("la", ("z", "y")), library("lo", ("x", "li")))
            self.assertEqual(raised(f, line, ("program", "main")), ("NoLibrary", {"name": "z"}))
            self.assertEqual(raised(f, line[3:], ("library", "q")), ("NoLibrary", {"name": "x"}))
            # The library that is linked is no card of its own line.
            self.assertEqual(raised(f, line[:1], ("library", "lo")), ("NoLibrary", {"name": "lo"}))
            line = (library("lo", ("li",)), library("li", ("lo",)))
            self.assertEqual(raised(f, line, ("library", "q"))[0], "told")

    def test_near_lines(self):
        goal = ("program", "main")
        for other, _ in near((item(A), archive("one", B), library("li"))):
            if not plain.is_line(other):
                with self.assertRaises(BadLine):
                    members(other, goal)


if __name__ == "__main__":
    unittest.main()
