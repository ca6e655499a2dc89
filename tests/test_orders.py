import itertools
import random
import time
import unittest

from onebase.naming import naming
from onebase.orders import is_order, order, order_with
from tests import plainlink, plainlots
from tests.making import loose_line
from tests.support import WEIRD, archive, calls, item, library, made, near, raised, weird_near
from tests.test_plainlines import LINE, MAIN, P, Q, R, U

CHAIN = (item(U), archive("one", P), archive("three", Q), archive("two", R))


def drawn(many, most=5):
    """Plain lines with a needed lot, and what the second reading tells of them."""
    for seed in range(many):
        rng = random.Random(seed)
        line, goal = loose_line(rng)
        if len(line) <= most and plainlink.outcome(plainlots.needed, line, goal)[0] == "told":
            yield rng, line, goal, plainlots.Orders(line, goal)


def is_order_told(held, thing):
    """The second reading of is_order."""
    if type(thing) is not tuple or len(thing) != 2 or type(thing[0]) is not str or type(thing[1]) is not tuple:
        return False
    word, numbers = thing
    if any(type(n) is not int or not 0 <= n < len(held.line) for n in numbers):
        return False
    if word == "order":
        return numbers in held.fulls()
    return word == "knot" and list(numbers) == sorted(set(numbers)) and held.is_knot(numbers)


class OrderTest(unittest.TestCase):
    def test_example_by_hand(self):
        self.assertEqual(order(LINE, MAIN), ("knot", (1, 2)))
        self.assertEqual(order(CHAIN, MAIN), ("order", (0, 1, 3, 2)))
        self.assertEqual([o for o in itertools.permutations(range(4)) if is_order(CHAIN, MAIN, ("order", o))], [(0, 1, 3, 2)])
        self.assertIs(is_order(line=LINE, goal=MAIN, thing=order(line=LINE, goal=MAIN)), True)
        self.assertIs(is_order(LINE, MAIN, ("knot", (1,))), False)
        self.assertIs(is_order(LINE, MAIN, ("knot", (0, 1, 2))), False)

    def test_small_ones(self):
        for line, goal, told in (
                ((), ("library", "lz"), ("order", ())), ((library("li"), archive("a"), ("round", ()), item(Q)), ("library", "lz"), ("order", (0, 1, 2, 3))),
                # What is needed of no archive comes first; objects and libraries come anyhow.
                ((archive("a", Q), item(R)), ("library", "lz"), ("order", (1, 0))), ((archive("a", Q), item(U)), ("program", "h"), None),
                ((archive("a", Q), library("li"), archive("b", R)), ("program", "g"), ("order", (1, 2, 0))),
                ((archive("b", R), archive("a", Q), library("li")), ("program", "g"), ("order", (0, 1, 2))),
                # The entry is wanted from the beginning.
                ((archive("a", R), archive("b", Q)), ("program", "h"), ("order", (0, 1))),
                ((("round", (archive("a", Q), archive("b", R))),), ("program", "g"), ("order", (0,))),
                ((archive("a", Q, R),), ("program", "g"), ("order", (0,)))):
            if told is None:
                self.assertEqual(raised(order, line, goal), ("Missing", {"names": ("f",)}))
            else:
                self.assertEqual(order(line, goal), told)
        # A library's own name is no entry: of these two the second waits for the first.
        line = (archive("a", made("v", calls("f", "g"))), archive("b", R), item(made("w", calls("x", "f"))), archive("c", Q))
        self.assertEqual(order(line, ("library", "g")), ("order", (2, 0, 1, 3)))
        self.assertEqual(order((line[1],) + line[:1] + line[2:], ("library", "g")), ("order", (2, 1, 0, 3)))
        # A knot of an archive that waits for itself through another.
        line = (archive("a", P, Q), archive("b", R), item(U))
        self.assertEqual(order(line, MAIN), ("knot", (0, 1)))
        self.assertEqual(order(line[1:] + (("round", line[:1]),), MAIN), ("knot", (0, 2)))

    def test_order_or_knot(self):
        """HEART: a full order or a knot, never both; order tells the least, or any knot."""
        seen = {"order": 0, "knot": 0}
        for rng, line, goal, held in drawn(500):
            fulls, knots = held.fulls(), held.knots()
            self.assertNotEqual(bool(fulls), bool(knots))
            told = order(line, goal)
            seen[told[0]] += 1
            if fulls:
                self.assertEqual(told, ("order", fulls[0]))
            else:
                self.assertEqual(told[0], "knot")
                self.assertIn(told[1], knots)
            for some in itertools.permutations(range(len(line))):
                self.assertIs(is_order(line, goal, ("order", some)), some in fulls)
                named = raised(naming, tuple(line[n] for n in some), goal)
                self.assertEqual(named[0] != "Missing", some in fulls)
            for lot in plainlots.lots_of(range(len(line))):
                self.assertIs(is_order(line, goal, ("knot", lot)), lot in knots)
        self.assertGreater(min(seen.values()), 20, seen)

    def test_laid_one_behind_the_other(self):
        """HEART: whoever lays any that comes is never stuck; all full orders are laid so, and no others."""
        many = 0
        for rng, line, goal, held in drawn(250):
            fulls = held.fulls()
            ways = [()]
            for _ in line:
                ways = [w + (n,) for w in ways for n in range(len(line)) if n not in w and held.comes(n, held.of(w))]
            self.assertEqual(sorted(ways), fulls)
            if fulls:
                some = ()
                while len(some) < len(line):
                    coming = [n for n in range(len(line)) if n not in some and held.comes(n, held.of(some))]
                    some += (rng.choice(coming),)
                self.assertIs(is_order(line, goal, ("order", some)), True)
                many += 1
        self.assertGreater(many, 100)

    def test_near_right_ones(self):
        more = (archive("a", Q), archive("b", R, P), item(U))
        for line in (LINE, CHAIN, more):
            held = plainlots.Orders(line, MAIN)
            for thing in (("order", tuple(range(len(line)))), ("knot", (1, 2)), order(line, MAIN)):
                for other, by_kind in near(thing):
                    told = is_order(line, MAIN, other)
                    self.assertIs(told, is_order_told(held, other), other)
                    self.assertFalse(told and by_kind)
                for other in weird_near(thing):
                    self.assertIs(is_order(line, MAIN, other), is_order_told(held, other))
        for thing in WEIRD + (("order", 0), ("knot", ()), ("order",), ["order", (0, 1, 3, 2)], ("order", [0, 1, 3, 2]), ("order", (0, 1, 3)),
                              ("order", (False, True, 3, 2)), ("order", (0, 1, 3, 2, 2)), ("order", (0, 1, 3, -2)), ("knot", (0, 1, 3, 2))):
            self.assertIs(is_order(CHAIN, MAIN, thing), False)
        self.assertIs(is_order((), ("library", "lz"), ("order", ())), True)
        self.assertIs(is_order((), ("library", "lz"), ("knot", ())), False)


class OrderWithTest(unittest.TestCase):
    def test_by_hand(self):
        self.assertEqual(order_with(CHAIN, MAIN, 1, 3), (0, 1, 3, 2))
        self.assertEqual(order_with(line=CHAIN, goal=MAIN, first=3, second=2), (0, 1, 3, 2))
        self.assertIsNone(order_with(CHAIN, MAIN, 2, 3))
        self.assertIsNone(order_with(CHAIN, MAIN, 1, 0))

    def test_all_pairs(self):
        seen = {True: 0, False: 0}
        for rng, line, goal, held in drawn(250):
            fulls = held.fulls()
            for first in range(len(line)):
                for second in range(len(line)):
                    told = raised(order_with, line, goal, first, second)
                    if not fulls:
                        self.assertEqual(told, ("Knotted", {}))
                    elif first == second:
                        self.assertEqual(told, ("BadItem", {}))
                    else:
                        let = [o for o in fulls if o.index(first) < o.index(second)]
                        seen[bool(let)] += 1
                        if let:
                            self.assertIn(told[1], let)
                        else:
                            self.assertEqual(told, ("told", None))
        self.assertGreater(min(seen.values()), 50, seen)

    def test_wrong_inputs(self):
        for thing in WEIRD + (4, 5, (0,), "0", 0.0):
            if type(thing) is int and 0 <= thing < 4:
                continue
            for first, second in ((thing, 0), (0, thing), (thing, thing)):
                self.assertEqual(raised(order_with, CHAIN, MAIN, first, second), ("BadItem", {}))
            # Knotted ahead of BadItem.
            self.assertEqual(raised(order_with, LINE, MAIN, thing, thing), ("Knotted", {}))
        self.assertEqual(raised(order_with, CHAIN, MAIN, 2, 2), ("BadItem", {}))
        self.assertEqual(raised(order_with, (), ("library", "lz"), 0, 1), ("BadItem", {}))


class SpeedTest(unittest.TestCase):
    def test_many_calls_end(self):
        """Thousands of calls; and a line of twelve archives, of which each waits for the next."""
        began = time.process_time()
        for seed in range(1500):
            line, goal = loose_line(random.Random(seed))
            if raised(order, line, goal)[0] == "told":
                is_order(line, goal, order(line, goal))
                raised(order_with, line, goal, 0, 1)
        names = ["main"] + ["n" + chr(97 + k) for k in range(11)]
        units = [made("u" + chr(97 + k), calls(names[k], *names[k + 1:k + 2])) for k in range(12)]
        line = tuple(archive("a" + chr(97 + k), u) for k, u in enumerate(units))[::-1]
        for _ in range(200):
            self.assertEqual(order(line, MAIN), ("order", tuple(range(11, -1, -1))))
        self.assertLess(time.process_time() - began, 20)


if __name__ == "__main__":
    unittest.main()
