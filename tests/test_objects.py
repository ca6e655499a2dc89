import unittest

from onebase.errors import BadObject, BadUnit
from onebase.objects import assembled, is_object, unit_of
from tests import plain
from tests.support import WEIRD, check_judge, code, near, unit
from tests.test_units import PIECES, ROWS, UNITS

EVERY = unit(
    "u", code("f", *ROWS), *[("piece", "abcdefg"[at] + "x") + p[2:] for at, p in enumerate(PIECES)],
    code("h", reach="own"), spares=("s", "t"), starts=("h", "h"))


class ObjectsTest(unittest.TestCase):
    def test_example(self):
        u = unit("a", code("f", ("set", 0, 2), ("show", 0), ("less", 1, 0), ("if", 1, 1), ("return",), reach="own"),
                 starts=("f",))
        self.assertEqual(assembled(u), ("object", "a", (), ("f",), (
            ("f", "code", "own", "strong",
             (1, 0, 2, 6, 0, 4, 1, 0, ("branch", "if", 1, ("row", 1)), 21)),)))

    def test_all_rows(self):
        items = assembled(unit("u", code("f", *ROWS)))[4][0][4]
        self.assertEqual(items, (
            1, 0, 63, 2, 3, 0, 3, 1, 2, 4, 2, 3, 5, 0, 6, 3,
            ("near", "load", (1,), "f", 63), ("near", "store", (0,), "f", 0), ("near", "item", (1, 2), "f", 0),
            ("near", "fill", (3, 0), "f", 0), ("near", "take", (1,), "f", 0), ("near", "pick", (0, 3), "f", 0),
            13, 3, 0, 1, ("branch", "call", None, ("name", "f")), ("branch", "try", 4, ("name", "f")), 20, 1,
            ("branch", "jump", None, ("name", "f")), ("branch", "goto", None, ("row", 4)),
            ("branch", "if", 3, ("row", 0)), 21, 22, 23, 62))

    def test_other_bodies_and_all_else_stay(self):
        told = assembled(EVERY)
        self.assertEqual(told[:4], ("object",) + EVERY[1:4])
        for chunk, p in zip(told[4], EVERY[4]):
            self.assertEqual(chunk[:4], p[1:5])
            if p[2] != "code":
                self.assertEqual(chunk[4], p[5])

    def test_there_and_back(self):
        for u in UNITS + (EVERY,) + tuple(unit("u", p) for p in PIECES):
            told = assembled(unit=u)
            self.assertIs(is_object(told), True)
            self.assertEqual(unit_of(thing=told), u)
            self.assertEqual(assembled(unit_of(told)), told)

    def test_no_two_units_have_one_object(self):
        seen = {}
        for u in (EVERY,) + UNITS:
            for other, _ in near(u):
                if plain.is_unit(other):
                    told = assembled(other)
                    self.assertEqual(unit_of(told), other)
                    self.assertEqual(seen.setdefault(told, other), other)
                else:
                    with self.assertRaises(BadUnit):
                        assembled(other)
        self.assertGreater(len(seen), 300)

    def test_is_object(self):
        check_judge(self, is_object, plain.is_object, [assembled(EVERY)] + [assembled(u) for u in UNITS])

    def test_unit_of_near_objects(self):
        for u in (EVERY,) + UNITS:
            for other, _ in near(assembled(u)):
                if plain.is_object(other):
                    self.assertEqual(assembled(unit_of(other)), other)
                else:
                    with self.assertRaises(BadObject):
                        unit_of(other)

    def test_items_that_are_none(self):
        def with_items(*items):
            return ("object", "u", (), (), (("f", "code", "open", "strong", items),))

        self.assertIs(is_object(with_items(1, 0, 5, 22)), True)
        for items in (
            (), (22, 22, 1), (1, 0, 22), (1, 0), (0,), (7, 0, 0, 0, 22), (14, 0, 22), (16, 0), (18, 0, 0, 22),
            (23, 63), (1, 4, 0, 22), (1, 0, 64, 22), (1, True, 0, 22), (1, 0.0, 0, 22), (22, 5, 0), (None, 22),
            (("near", "alike", (0, 1), 0, 0), 22), (("branch", "leap", None, ("name", 0)), 22),
            (("branch", "fail", None, ("row", 3)),), (("branch", "goto", None, ("name", 0)),),
            (("branch", "goto", 0, ("row", 0)),), (("branch", "jump", None, ("row", "f")),),
            (("near", "load", (0, 0), "f", 0), 22), (("near", "item", (0,), "f", 0), 22),
            (("near", "take", (0,), "f", 1), 22), (("near", "item", (0, 0), "f", False), 22),
            (("near", "load", (False,), "f", 0), 22), (("near", "load", (), "f", 0), 22),
            (("branch", "if", False, ("row", 0)), 22), (("branch", "try", True, ("name", "f")), 22),
            (("branch", "if", 0, ("row", 2)), 22), (("branch", "try", 2, ("name", "f")), 22),
        ):
            self.assertIs(is_object(with_items(*items)), False, items)
            self.assertIs(plain.is_object(with_items(*items)), False, items)

    def test_rows_not_cells_are_counted(self):
        for many in (39, 40, 41):
            u = unit("u", code("f", *[("alike", 0, 0, 0)] * (many - 1), ("stop",)))
            o = ("object", "u", (), (), (("f", "code", "open", "strong", (13, 0, 0, 0) * (many - 1) + (22,)),))
            self.assertIs(is_object(o), many <= 40)
            if many <= 40:
                self.assertEqual(assembled(u), o)

    def test_wrong(self):
        for thing in WEIRD + UNITS:
            with self.assertRaises(BadObject):
                unit_of(thing)
        for thing in WEIRD + (assembled(EVERY),):
            with self.assertRaises(BadUnit):
                assembled(thing)


if __name__ == "__main__":
    unittest.main()
