import unittest

from onebase.asking import defined, led
from onebase.errors import BadObject
from onebase.objects import assembled
from tests import plain
from tests.support import WEIRD, calls, code, made, near, piece
from tests.test_objects import EVERY
from tests.test_units import UNITS


class DefinedTest(unittest.TestCase):
    def test_all_sorts(self):
        o = made(
            "u", code("z"), code("y", force="weak", reach="hidden"), piece("d", "data", (1, 2, 3), force="weak"),
            piece("k", "const", (1,)), piece("t", "table", (None, "z")), piece("r", "room", 64, "hidden"),
            code("o", reach="own"), piece("p", "room", 3, "own"))
        self.assertEqual(defined(o), (
            ("d", "data", 3, False), ("k", "cells", 1, True), ("r", "data", 64, True), ("t", "table", 2, True),
            ("y", "code", 0, False), ("z", "code", 0, True)))
        self.assertEqual({type(gives) for *_, gives in defined(thing=o)}, {bool})

    def test_nothing(self):
        self.assertEqual(defined(made("u", code("f", reach="own"))), ())


class LedTest(unittest.TestCase):
    def test_names(self):
        o = made(
            "u", calls("f", "s", "f", "g"), calls("g", "b", "a", reach="own"), piece("t", "table", ("c", None)),
            spares=("q", "s"))
        self.assertEqual(led(o), (("a", False), ("b", False), ("c", False), ("f", False), ("s", True)))
        self.assertEqual({type(spare) for _, spare in led(thing=o)}, {bool})

    def test_own_names_lead_not_out(self):
        self.assertEqual(led(made("u", calls("f", "g"), code("g", reach="own"))), ())
        for reach in ("hidden", "open"):
            self.assertEqual(led(made("u", calls("f", "g"), code("g", reach=reach))), (("g", False),))

    def test_weak_pieces_lead_too(self):
        self.assertEqual(led(made("u", calls("f", "g", force="weak"))), (("g", False),))

    def test_each_once(self):
        o = made("u", code("f", ("load", 0, "x", 3), ("load", 0, "x", 5), ("call", "x"), ("jump", "x")))
        self.assertEqual(led(o), (("x", False),))


class AskingTest(unittest.TestCase):
    def test_near(self):
        for u in UNITS + (EVERY,):
            for o, _ in near(assembled(u)):
                if not plain.is_object(o):
                    for f in (defined, led):
                        with self.assertRaises(BadObject):
                            f(o)
                    continue
                pieces = plain.unit_told(o)[4]
                shown = [p for p in pieces if p[3] != "own"]
                sorts = {"const": "cells", "room": "data"}
                self.assertEqual(defined(o), tuple(sorted(
                    (p[1], sorts.get(p[2], p[2]), plain.long(p[2], p[5]), p[4] == "strong") for p in shown)))
                own = {p[1] for p in pieces if p[3] == "own"}
                names = {x for p in pieces for _, _, x, _ in plain.uses_of(p[2], p[5])}
                self.assertEqual(led(o), tuple((x, x in o[2]) for x in sorted(names - own)))

    def test_no_object(self):
        for thing in WEIRD + UNITS:
            for f in (defined, led):
                with self.assertRaises(BadObject):
                    f(thing)


if __name__ == "__main__":
    unittest.main()
