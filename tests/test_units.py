import unittest

from onebase.errors import BadPiece, BadUnit
from onebase.units import is_piece, is_row, is_unit, unit_faults, uses
from tests import plain
from tests.support import WEIRD, calls, check_judge, code, near, piece, unit

ROWS = (
    ("set", 0, 63), ("copy", 3, 0), ("plus", 1, 2), ("less", 2, 3), ("ask", 0), ("show", 3),
    ("load", 1, "f", 63), ("store", 0, "f", 0), ("item", 1, "f", 2), ("fill", 3, "f", 0), ("take", 1, "f"),
    ("pick", 0, "f", 3), ("alike", 3, 0, 1), ("call", "f"), ("try", "f", 4), ("leap", 1), ("jump", "f"),
    ("goto", 4), ("if", 3, 0), ("return",), ("stop",), ("fail", 62),
)

PIECES = (
    code("f"),
    code("f", *ROWS, reach="own"),
    code("f", ("call", "f"), ("stop",), reach="hidden", force="weak"),
    piece("d", "data", (0, 63), force="weak"),
    piece("k", "const", (7,), "own"),
    piece("t", "table", ("f", None, "g"), "hidden"),
    piece("r", "room", 64, "own"),
)

UNITS = (
    unit("u", code("f")),
    unit("u", code("f", reach="own"), code("g", ("call", "s"), ("return",)), spares=("s", "t"), starts=("f", "f")),
    unit("u", *PIECES[3:], code("b", reach="own"), code("e", reach="own"), starts=("b", "e", "b")),
)

LASTS = (("goto", 0), ("jump", "f"), ("return",), ("stop",), ("fail", 0))


class RowsTest(unittest.TestCase):
    def test_rows(self):
        check_judge(self, lambda r: is_row(r, 5), lambda r: plain.is_row(r, 5), ROWS)

    def test_row_numbers(self):
        for many in (1, 2, 39, 40):
            for n in range(-1, 42):
                self.assertIs(is_row(("goto", n), many), 0 <= n < many)
                self.assertIs(is_row(("if", 0, n), many=many), 0 <= n < many)
                self.assertIs(is_row(thing=("try", "f", n), many=many), 0 <= n < many)

    def test_limits_of_parts(self):
        for n in range(-2, 70):
            self.assertIs(is_row(("set", 0, n), 1), 0 <= n <= 63)
            self.assertIs(is_row(("set", n, 0), 1), 0 <= n <= 3)
            self.assertIs(is_row(("copy", 0, n), 1), 0 <= n <= 3)
            self.assertIs(is_row(("leap", n), 1), 0 <= n <= 1)
            self.assertIs(is_row(("alike", 0, 0, n), 1), 0 <= n <= 1)
            self.assertIs(is_row(("fail", n), 1), 0 <= n <= 62)
            self.assertIs(is_row(("load", 0, "x", n), 1), 0 <= n <= 63)
            self.assertIs(is_row(("item", 0, "x", n), 1), 0 <= n <= 3)
            self.assertIs(is_row(("take", n, "x"), 1), 0 <= n <= 1)

    def test_other_words(self):
        for word in ("by load", "leave", "", "Set", "none", "halt", "item of"):
            for parts in ((), (0,), ("f",), (0, 0), (0, "f"), (0, "f", 0)):
                self.assertIs(is_row((word,) + parts, 5), False)


class PiecesTest(unittest.TestCase):
    def test_pieces(self):
        check_judge(self, is_piece, plain.is_piece, PIECES)

    def test_forces(self):
        bodies = {"code": (("stop",),), "data": (1,), "const": (1,), "table": (None,), "room": 1}
        for sort, body in bodies.items():
            for reach in ("own", "hidden", "open", "closed"):
                for force in ("strong", "weak", "mild"):
                    told = is_piece(("piece", "a", sort, reach, force, body))
                    right = reach != "closed" and force != "mild"
                    if force == "weak" and (reach == "own" or sort == "room"):
                        right = False
                    self.assertIs(told, right)

    def test_lengths(self):
        for many in range(0, 70):
            self.assertIs(is_piece(piece("a", "data", (1,) * many)), 1 <= many <= 64)
            self.assertIs(is_piece(piece("a", "const", (1,) * many)), 1 <= many <= 64)
            self.assertIs(is_piece(piece("a", "table", ("f",) * many)), 1 <= many <= 16)
            self.assertIs(is_piece(piece("a", "room", many)), 1 <= many <= 64)
            rows = (("show", 0),) * (many - 1) + (("stop",),) * min(many, 1)
            self.assertIs(is_piece(piece("a", "code", rows)), 1 <= many <= 40)

    def test_last_rows(self):
        for row in ROWS:
            row = ("goto", 0) if row[0] == "goto" else row
            row = ("try", "f", 0) if row[0] == "try" else row
            self.assertIs(is_piece(code("a", row)), row[0] in [last[0] for last in LASTS])
        for last in LASTS:
            self.assertIs(is_piece(code("a", ("show", 0), last)), True)


class UnitsTest(unittest.TestCase):
    def test_units(self):
        seen = check_judge(self, is_unit, plain.is_unit, UNITS)
        self.assertGreater(seen[True], 100)
        self.assertGreater(seen[False], 100)

    def test_many_pieces(self):
        names = ["a" + chr(97 + k) for k in range(26)]
        for many in range(0, 27):
            self.assertIs(is_unit(unit("u", *[code(x) for x in names[:many]])), 1 <= many <= 24)

    def test_starts(self):
        own = code("f", reach="own")
        for other in (
            code("g", ("take", 0, "f"), ("stop",)), piece("g", "table", (None, "f")),
            piece("g", "table", ("f",), "own"),
        ):
            self.assertIs(is_unit(unit("u", own, other)), True)
            self.assertIs(is_unit(unit("u", own, other, starts=("f",))), False)
            self.assertIs(is_unit(unit("u", other, own, code("h", reach="own"), starts=("h", "f"))), False)
        self.assertIs(is_unit(unit("u", own, calls("g", "f"), starts=("f",))), True)
        for wrong in (code("f"), code("f", reach="hidden"), piece("f", "data", (1,), "own")):
            self.assertIs(is_unit(unit("u", wrong, starts=("f",))), False)
        self.assertIs(is_unit(unit("u", own, starts=("g",))), False)

    def test_spares(self):
        self.assertIs(is_unit(unit("u", code("f"), spares=("a", "b"))), True)
        for spares in (("b", "a"), ("a", "a"), ("f",), ("a", "f"), ("open",), ["a"]):
            self.assertIs(is_unit(unit("u", code("f"), spares=spares)), False)

    def test_names_once(self):
        self.assertIs(is_unit(unit("u", code("f"), piece("f", "data", (1,)))), False)
        self.assertIs(is_unit(unit("f", code("f"))), True)


class UsesTest(unittest.TestCase):
    def test_uses(self):
        self.assertEqual(uses(code("f", *ROWS)), (
            ("f", "call", 0), ("f", "fill", 0), ("f", "item", 0), ("f", "jump", 0), ("f", "load", 63),
            ("f", "pick", 0), ("f", "store", 0), ("f", "take", 0), ("f", "try", 0),
        ))

    def test_each_once_ascending(self):
        self.assertEqual(
            uses(piece=code("f", ("load", 0, "b", 9), ("load", 1, "b", 2), ("load", 2, "b", 2), ("call", "a"),
                            ("call", "a"), ("stop",))),
            (("a", "call", 0), ("b", "load", 2), ("b", "load", 9)))
        self.assertEqual(uses(piece("t", "table", ("g", None, "f", "g"))), (
            ("f", "item of", 2), ("g", "item of", 0), ("g", "item of", 3)))
        for p in (piece("d", "data", (1,)), piece("d", "const", (1,)), piece("d", "room", 9), code("f")):
            self.assertEqual(uses(p), ())

    def test_no_piece(self):
        for thing in WEIRD + tuple(x for p in PIECES for x, _ in near(p)):
            if not plain.is_piece(thing):
                with self.assertRaises(BadPiece):
                    uses(thing)


class FaultsTest(unittest.TestCase):
    def test_sorts(self):
        own = {
            "code": code("x", reach="own"), "data": piece("x", "data", (1, 2), "own"),
            "const": piece("x", "const", (1, 2), "own"), "room": piece("x", "room", 2, "own"),
            "table": piece("x", "table", (None,), "own"),
        }
        rows = {
            ("call", "x"): "code", ("try", "x", 0): "code", ("take", 0, "x"): "code", ("jump", "x"): "code",
            ("pick", 0, "x", 0): "table", ("load", 0, "x", 1): "data const room",
            ("item", 0, "x", 0): "data const room", ("store", 0, "x", 1): "data room",
            ("fill", 0, "x", 0): "data room",
        }
        for row, sorts in rows.items():
            for sort, one in own.items():
                told = unit_faults(unit("u", one, code("f", ("show", 0), row, ("stop",))))
                self.assertEqual(told, () if sort in sorts.split() else (("sort", "x", "f", 1),), (row, sort))
        for sort, one in own.items():
            told = unit_faults(unit("u", piece("t", "table", (None, "x")), one))
            self.assertEqual(told, () if sort == "code" else (("sort", "x", "t", 1),))

    def test_short(self):
        for sort, body in (("data", (1, 2)), ("const", (1, 2)), ("room", 2)):
            for k in (0, 1, 2, 63):
                told = unit_faults(unit("u", piece("x", sort, body, "own"), code("f", ("load", 0, "x", k), ("stop",))))
                self.assertEqual(told, () if k < 2 else (("short", "x", "f", 0),))
        u = unit("u", piece("x", "const", (1,), "own"), code("f", ("store", 0, "x", 5), ("stop",)))
        self.assertEqual(unit_faults(u), (("sort", "x", "f", 0),))

    def test_spare(self):
        for row, right in (
            (("call", "s"), True), (("try", "s", 0), True), (("take", 0, "s"), True), (("jump", "s"), True),
            (("pick", 0, "s", 0), False), (("load", 0, "s", 0), False), (("store", 0, "s", 0), False),
            (("item", 0, "s", 0), False), (("fill", 0, "s", 0), False),
        ):
            told = unit_faults(unit("u", code("f", row, ("stop",)), spares=("s",)))
            self.assertEqual(told, () if right else (("spare", "s", "f", 0),))
        told = unit_faults(unit("u", piece("t", "table", ("s", None, "s")), spares=("s",)))
        self.assertEqual(told, (("spare", "s", "t", 0), ("spare", "s", "t", 2)))

    def test_only_own_pieces_are_asked(self):
        for reach in ("hidden", "open"):
            u = unit("u", piece("x", "const", (1,), reach), code("f", ("call", "x"), ("load", 0, "y", 63), ("stop",)))
            self.assertEqual(unit_faults(u), ())

    def test_by_pieces_then_rows(self):
        u = unit(
            "u", code("g", ("call", "x"), ("load", 0, "x", 1), ("load", 0, "s", 1), ("stop",)),
            piece("x", "const", (1,), "own"), piece("b", "table", ("x", "s")), code("a", ("jump", "x")),
            spares=("s",))
        self.assertEqual(unit_faults(unit=u), (
            ("sort", "x", "g", 0), ("short", "x", "g", 1), ("spare", "s", "g", 2), ("sort", "x", "b", 0),
            ("spare", "s", "b", 1), ("sort", "x", "a", 0)))

    def test_near_units(self):
        base = unit(
            "u", code("f", ("load", 0, "k", 1), ("call", "s"), ("call", "g"), ("pick", 0, "t", 1), ("stop",)),
            code("g", ("fill", 0, "d", 1), ("item", 0, "r", 1), ("stop",), reach="own"),
            piece("k", "const", (1, 2), "own"), piece("t", "table", ("f", "g", None), "own"),
            piece("d", "data", (3,), "own"), piece("r", "room", 2, "own"), spares=("s",))
        self.assertEqual(unit_faults(base), ())
        some = 0
        for other, _ in near(base):
            if plain.is_unit(other):
                self.assertEqual(unit_faults(other), plain.faults(other))
                some += unit_faults(other) != ()
            else:
                with self.assertRaises(BadUnit):
                    unit_faults(other)
        self.assertGreater(some, 10)

    def test_no_unit(self):
        for thing in WEIRD:
            with self.assertRaises(BadUnit):
                unit_faults(thing)


if __name__ == "__main__":
    unittest.main()
