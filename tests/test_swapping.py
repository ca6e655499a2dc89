import itertools
import random
import time
import unittest

from onebase.orders import is_order, order
from onebase.swapping import is_swaps, swaps
from tests import plainlots
from tests.making import loose_line
from tests.support import WEIRD, archive, calls, item, made, near, raised, weird_near
from tests.test_orders import CHAIN, drawn
from tests.test_plainlines import LINE, MAIN, P, Q, R, U


def apart(one, other):
    """How many pairs stand the other way round."""
    return sum((one.index(a) < one.index(b)) != (other.index(a) < other.index(b)) for a, b in itertools.combinations(range(len(one)), 2))


def leads(fulls, one, other, thing):
    """The second reading of is_swaps."""
    if type(thing) is not tuple or any(type(p) is not int or not 0 <= p < len(one) - 1 for p in thing):
        return False
    now = list(one)
    for p in thing:
        now[p], now[p + 1] = now[p + 1], now[p]
        if tuple(now) not in fulls:
            return False
    return tuple(now) == other and len(thing) == apart(one, other)


class SwapsTest(unittest.TestCase):
    def test_by_hand(self):
        line = (item(U), archive("a", P), archive("b", Q, R))
        self.assertEqual(swaps(line, MAIN, (0, 1, 2), (0, 1, 2)), ())
        self.assertEqual(swaps(line=line, goal=MAIN, one=(0, 1, 2), other=(0, 1, 2)), ())
        line = (item(U), item(P), archive("b", Q, R))
        self.assertEqual(swaps(line, MAIN, (0, 1, 2), (1, 0, 2)), (0,))
        self.assertEqual(swaps(line, MAIN, (1, 0, 2), (1, 2, 0)), (1,))
        self.assertIs(is_swaps(line=line, goal=MAIN, one=(0, 1, 2), other=(1, 2, 0), thing=(0, 1)), True)
        for thing in ((1, 0), (0,), (), (0, 1, 1, 1), (0, 2), (0, -1), [0, 1], (0, 1.0), (False, 1)):
            self.assertIs(is_swaps(line, MAIN, (0, 1, 2), (1, 2, 0), thing), False)

    def test_ways_that_leave_the_full_orders(self):
        """What two want comes behind either; as short a way goes over an order in which it stands ahead of both."""
        line = (item(made("v", calls("x", "h"))), archive("a", Q), item(made("w", calls("y", "h"))))
        goal = ("library", "lz")
        self.assertEqual(plainlots.Orders(line, goal).fulls(), [(0, 1, 2), (0, 2, 1), (2, 0, 1), (2, 1, 0)])
        for thing, right in (((1, 0, 1), True), ((0, 1, 0), False), ((1, 0), False), ((1, 1, 1, 0, 1), False)):
            self.assertIs(is_swaps(line, goal, (0, 1, 2), (2, 1, 0), thing), right)
        self.assertEqual(swaps(line, goal, (0, 1, 2), (2, 1, 0)), (1, 0, 1))

    def test_by_neighbours(self):
        """HEART: there is a way between any two full orders, no longer than it must be."""
        many = 0
        for rng, line, goal, held in drawn(250):
            fulls = held.fulls()
            for _ in range(12 if fulls else 0):
                one, other = rng.choice(fulls), rng.choice(fulls)
                told = swaps(line, goal, one, other)
                self.assertTrue(leads(fulls, one, other, told))
                self.assertIs(is_swaps(line, goal, one, other, told), True)
                many += len(told)
        self.assertGreater(many, 1000)

    def test_all_ways(self):
        """Of all tuples of so many numbers the judge takes those that the second reading takes."""
        seen = {True: 0, False: 0}
        for rng, line, goal, held in drawn(100, 4):
            fulls = held.fulls()
            for one, other in itertools.product(fulls[:4], fulls[-3:]):
                for many in {apart(one, other), max(apart(one, other) - 2, 0), 2}:
                    for thing in itertools.islice(itertools.product(range(len(line)), repeat=many), 300):
                        right = leads(fulls, one, other, thing)
                        self.assertIs(is_swaps(line, goal, one, other, thing), right)
                        seen[right] += 1
        self.assertGreater(min(seen.values()), 100, seen)

    def test_near_right_ones(self):
        line = (archive("d", Q), item(U), item(P), archive("b", R))
        self.assertEqual(order(line, MAIN), ("order", (1, 2, 3, 0)))
        fulls = [o for o in itertools.permutations(range(4)) if is_order(line, MAIN, ("order", o))]
        one, other = fulls[0], fulls[-1]
        told = swaps(line, MAIN, one, other)
        self.assertGreater(len(told), 1)
        for thing, by_kind in near(told):
            right = is_swaps(line, MAIN, one, other, thing)
            self.assertIs(right, leads(fulls, one, other, thing))
            self.assertFalse(right and by_kind)
        for thing in itertools.chain(weird_near(told), WEIRD):
            self.assertIs(is_swaps(line, MAIN, one, other, thing), leads(fulls, one, other, thing))

    def test_wrong_inputs(self):
        full = (0, 1, 3, 2)
        for thing in WEIRD + ((0, 1, 2, 3), (0, 1, 3), list(full), (0, 1, 3, 2, 2), (1, 0, 3, 2), (0, True, 3, 2), (0, 1, 3, 2.0)):
            is_full = is_order(CHAIN, MAIN, ("order", thing))
            for one, other in ((thing, full), (full, thing), (thing, thing)):
                for f, more in ((swaps, ()), (is_swaps, (None,))):
                    self.assertEqual(raised(f, CHAIN, MAIN, one, other, *more)[0], "told" if is_full else "NotFull")
            # With a knot no order is full.
            for f, more in ((swaps, ()), (is_swaps, (None,))):
                self.assertEqual(raised(f, LINE, MAIN, thing, thing, *more), ("NotFull", {}))
        for f, more in ((swaps, ()), (is_swaps, (None,))):
            self.assertEqual(raised(f, list(LINE), None, None, None, *more), ("BadLine", {}))
            self.assertEqual(raised(f, LINE, None, None, None, *more), ("BadGoal", {}))
            self.assertEqual(raised(f, LINE + (item(P[:1] + ("pp",) + P[2:]),), MAIN, None, None, *more), ("NotPlain", {"name": "f"}))
            self.assertEqual(raised(f, LINE[:2], MAIN, None, None, *more), ("Missing", {"names": ("g",)}))
        self.assertEqual(swaps((), ("library", "lz"), (), ()), ())

    def test_many_calls_end(self):
        began = time.process_time()
        many = 0
        for seed in range(1500):
            line, goal = loose_line(random.Random(seed))
            told = raised(order, line, goal)
            if told[0] == "told" and told[1][0] == "order":
                one = told[1][1]
                is_swaps(line, goal, one, one, swaps(line, goal, one, one))
                many += 1
        self.assertGreater(many, 500)
        self.assertLess(time.process_time() - began, 20)


if __name__ == "__main__":
    unittest.main()
