import itertools
import random
import unittest

from onebase.errors import BadKnot, BadWeb
from onebase.keeping import kept
from onebase.parting import classes, front, is_even
from tests import plain, plainlink
from tests.making import alike_web, one_web
from tests.support import WEIRD, near
from tests.test_webs import WEBS, knot, rows, web

HAND = web(
    rows("a", ("call", 1), ("return",)), rows("b", ("call", 0), ("return",)), rows("c", ("call", 2), ("return",)),
    rows("d", ("call", 4), ("return",)), rows("e", ("show", 0), ("return",)), roots=(0, 2, 3))


class FrontTest(unittest.TestCase):
    def test_rows(self):
        held = (knot("k", "const", (1, 2)), knot("t", "table", (4, None, "x")), knot("d", "data", (1, 2)),
                knot("r", "room", 2), rows("f", ("stop",)))
        one = web(*held, rows(
            "a", ("call", 4), ("call", "x"), ("try", 4, 3), ("try", "x", 3), ("pick", 1, 1, 2), ("pick", 1, "x", 2),
            ("load", 0, 0, 1), ("load", 0, 2, 1), ("load", 0, 3, 1), ("load", 0, "x", 1), ("item", 0, 0, 3),
            ("item", 0, 2, 3), ("item", 0, "x", 3), ("store", 0, 2, 1), ("fill", 0, 3, 1), ("take", 1, 4),
            ("take", 1, "x"), ("if", 2, 9), ("leap", 0), ("goto", 7), ("jump", "x"), ("jump", 4)))
        self.assertEqual(front(one, 5), ("code", (
            ("call", ""), ("call", "x"), ("try", "", 3), ("try", "x", 3), ("pick", 1, "", 2), ("pick", 1, "x", 2),
            ("load", 0, "", 1), ("load", 0, 2, 1), ("load", 0, 3, 1), ("load", 0, "x", 1), ("item", 0, "", 3),
            ("item", 0, 2, 3), ("item", 0, "x", 3), ("store", 0, 2, 1), ("fill", 0, 3, 1), ("take", 1, 4),
            ("take", 1, "x"), ("if", 2, 9), ("leap", 0), ("goto", "", 7), ("jump", "x"), ("goto", "", 0))))
        self.assertEqual(front(one, 0), ("const", (1, 2)))
        self.assertEqual(front(one, 1), ("table", (4, None, "x")))
        self.assertEqual(front(web=one, knot=2), ("data", 2))
        self.assertEqual(front(one, 3), ("room", 3))

    def test_made_up(self):
        for seed in range(200):
            one = one_web(random.Random(seed))
            for k in range(len(one[3])):
                self.assertEqual(front(one, k), plainlink.front(one, k))

    def test_errors(self):
        for thing in WEIRD + tuple(other for other, _ in near(WEBS[1])):
            if not plain.is_web(thing):
                with self.assertRaises(BadWeb):
                    front(thing, None)
                with self.assertRaises(BadWeb):
                    classes(thing)
                with self.assertRaises(BadWeb):
                    is_even(thing, None)
        for k in WEIRD + (5,):
            if not (type(k) is int and 0 <= k < 5):
                with self.assertRaises(BadKnot):
                    front(HAND, k)


class ClassesTest(unittest.TestCase):
    def test_example(self):
        self.assertEqual(classes(HAND), ((0, 1, 2), (3,), (4,)))
        self.assertEqual(front(HAND, 0), ("code", (("call", ""), ("return",))))
        self.assertEqual({front(HAND, k) for k in range(4)}, {front(HAND, 0)})

    def test_kept_alone(self):
        self.assertEqual(classes(HAND[:1] + ((3,),) + HAND[2:]), ((3,), (4,)))
        self.assertEqual(classes(web=web()), ())

    def test_goto_beside_jump(self):
        # A goto 0 steps to its own knot, as a jump to what is alike does.
        one = web(rows("a", ("show", 0), ("goto", 0)), rows("b", ("show", 0), ("jump", 0)),
                  rows("c", ("show", 0), ("jump", 2)), rows("d", ("show", 0), ("jump", 4)), rows("e", ("show", 1), ("jump", 4)),
                  rows("f", ("show", 0), ("goto", 1)), roots=(0, 1, 2, 3, 4, 5))
        self.assertEqual(classes(one), ((0, 1, 2), (3,), (4,), (5,)))

    def test_what_holds_knots_apart(self):
        held = (knot("k", "const", (1,)), knot("l", "const", (1,)), knot("d", "data", (1,)), knot("e", "data", (1,)),
                rows("f", ("stop",)), rows("g", ("stop",)), knot("t", "table", (4,)), knot("u", "table", (4,)),
                knot("v", "table", (5,)))
        alike = lambda *two: classes(web(
            *held, rows("a", two[0], ("stop",)), rows("b", two[1], ("stop",)), roots=(9, 10)))[-1] == (9, 10)
        for one, other, told in (
            (("load", 0, 0, 0), ("load", 0, 1, 0), True), (("item", 0, 0, 0), ("item", 0, 1, 0), True),
            (("load", 0, 2, 0), ("load", 0, 3, 0), False), (("store", 0, 2, 0), ("store", 0, 3, 0), False),
            (("load", 0, 2, 0), ("load", 0, 2, 0), True), (("call", 4), ("call", 5), True),
            (("take", 0, 4), ("take", 0, 5), False), (("take", 0, 4), ("take", 0, 4), True),
            (("pick", 0, 6, 0), ("pick", 0, 7, 0), True), (("pick", 0, 6, 0), ("pick", 0, 8, 0), False),
            (("call", 4), ("call", "x"), False), (("call", "x"), ("call", "x"), True), (("call", "x"), ("call", "y"), False),
            (("call", 4), ("try", 4, 0), False), (("load", 0, 0, 0), ("load", 1, 0, 0), False),
        ):
            self.assertIs(alike(one, other), told, (one, other))

    def test_coarsest(self):
        merged = 0
        for seed in range(300):
            rng = random.Random(seed)
            one = one_web(rng) if seed % 3 == 0 else alike_web(rng)
            self.assertTrue(plain.is_web(one), one)
            told = classes(one)
            evens = plainlink.even_partings(one)
            self.assertEqual(told, min(evens, key=len))
            self.assertEqual(len([lots for lots in evens if len(lots) == len(told)]), 1)
            for lots in evens:
                self.assertTrue(all(any(set(lot) <= set(whole) for whole in told) for lot in lots))
            merged += len(told) < len(kept(one))
        self.assertGreater(merged, 50)

    def test_joined(self):
        for seed in range(60):
            one = alike_web(random.Random(seed), 5)
            for some, others in itertools.combinations(plainlink.even_partings(one)[:6], 2):
                lots = [set(lot) for lot in some + others]
                while True:
                    pair = next(((a, b) for a, b in itertools.combinations(lots, 2) if a & b), None)
                    if pair is None:
                        break
                    lots = [lot for lot in lots if lot is not pair[0] and lot is not pair[1]] + [pair[0] | pair[1]]
                self.assertIs(is_even(one, tuple(tuple(sorted(lot)) for lot in lots)), True)

    def test_far_apart(self):
        # Two chains that differ at their ends alone are held apart all along.
        for ends, told in (((0, 1), 200), ((0, 0), 100)):
            knots = []
            for chain, register in enumerate(ends):
                for k in range(100):
                    here = chain * 100 + k
                    row = ("show", register) if k == 99 else ("call", here + 1)
                    knots.append(("knot", (here, "a"), "code", (row, ("return",))))
            self.assertEqual(len(classes(("web", (0, 100), (), tuple(knots)))), told)


class IsEvenTest(unittest.TestCase):
    def test_partings(self):
        for lots, told in (
            (((0, 1, 2), (3,), (4,)), True), (((4,), (3,), (0, 1, 2)), True), (((0,), (1,), (2,), (3,), (4,)), True),
            (((0, 1), (2,), (3,), (4,)), True), (((0, 2), (1,), (3,), (4,)), False), (((0, 1, 2, 3), (4,)), False),
            (((0, 1, 2), (3, 4)), False), (((0, 1, 2), (3,)), False), (((0, 1, 2), (3,), (4,), (4,)), False),
            (((0, 1, 2), (3,), (4,), ()), False), (((1, 0, 2), (3,), (4,)), False), (((0, 1, 1, 2), (3,), (4,)), False),
            (((0, 1, 2), (3,), (4,), (5,)), False), (((0, 1, 2), (3,), (4, 5)), False), (((0, 1, 2), (3,), (-1,)), False),
            ([(0, 1, 2), (3,), (4,)], False), (((0, 1, 2), [3], (4,)), False), (((0, 1, 2), (3,), (4.0,)), False),
            (((False, 1, 2), (3,), (4,)), False), (((0, True, 2), (3,), (4,)), False), ((0, 1, 2, 3, 4), False),
            ((), False), (((1, 2), (0,), (3,), (4,)), False),
        ):
            self.assertIs(is_even(HAND, lots), told, lots)

    def test_any_value(self):
        for thing in WEIRD:
            self.assertIs(is_even(HAND, thing), False)
            self.assertIs(is_even(web=web(), thing=thing), type(thing) is tuple and len(thing) == 0)
        for other, _ in near(classes(HAND)):
            right = plain.judge(self.is_parting)(other)
            self.assertIs(is_even(HAND, other), right and plainlink.is_even(HAND, other))

    def is_parting(self, thing):
        for lot in plain.tuple_(thing):
            plain.tuple_(lot, 1)
            plain.numbers(lot, 5)
            plain.ascending(lot)
        plain.need(sorted(k for lot in thing for k in lot) == [0, 1, 2, 3, 4])

    def test_against_all_partings(self):
        for seed in range(60):
            rng = random.Random(seed)
            one = one_web(rng, 5) if seed % 2 else alike_web(rng, 5)
            for lots in plainlink.partings(list(kept(one))):
                self.assertIs(is_even(one, lots), plainlink.is_even(one, lots))


if __name__ == "__main__":
    unittest.main()
