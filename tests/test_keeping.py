import random
import unittest

from onebase.errors import BadKnot, BadWeb, NotKept
from onebase.keeping import freed, holders, is_road, kept, road
from tests import plain, plainlink
from tests.making import one_web
from tests.support import WEIRD, near
from tests.test_webs import WEBS, knot, rows, web


def graph(*aims, roots=(0,)):
    """A web of code: by knots to which each leads."""
    return web(*[rows("k" + chr(97 + k), *[("call", x) for x in some], ("return",)) for k, some in enumerate(aims)],
               roots=roots)


RING = graph((1,), (2, 4), (3,), (1,), (), (4,))
FORK = graph((1, 2), (3,), (3,), (4,), (), roots=(0,))


class KeptTest(unittest.TestCase):
    def test_rings(self):
        self.assertEqual(kept(RING), (0, 1, 2, 3, 4))
        self.assertEqual(kept(web=graph((0,), (2,), (1,), roots=())), ())
        self.assertEqual(kept(graph((0,), (2,), (1,), roots=(1,))), (1, 2))
        self.assertEqual(kept(web()), ())

    def test_all_that_leads_counts(self):
        held = (knot("k", "const", (1,)), knot("t", "table", (5, None)), knot("d", "data", (1,)), knot("r", "room", 1),
                rows("f", ("stop",)), rows("g", ("stop",)))
        for row, told in (
            (("load", 0, 0, 0), (0, 6)), (("item", 0, 0, 0), (0, 6)), (("pick", 0, 1, 0), (1, 5, 6)),
            (("store", 0, 2, 0), (2, 6)), (("fill", 0, 3, 0), (3, 6)), (("call", 4), (4, 6)), (("try", 4, 0), (4, 6)),
            (("take", 0, 4), (4, 6)), (("leap", 0), (6,)), (("call", "x"), (6,)),
        ):
            self.assertEqual(kept(web(*held, rows("a", row, ("return",)), roots=(6,))), told)
        self.assertEqual(kept(web(*held, rows("a", ("jump", 4)), roots=(6,))), (4, 6))

    def test_long_chain(self):
        chain = tuple(("knot", (k, "a"), "code", (("call", min(k + 1, 199)), ("return",))) for k in range(200))
        self.assertEqual(kept(("web", (0,), (), chain)), tuple(range(200)))
        self.assertEqual(road(("web", (0,), (), chain), 199), tuple(range(200)))
        self.assertEqual(holders(("web", (0,), (), chain), 199), tuple(range(200)))
        self.assertEqual(freed(("web", (0,), (), chain), 7), tuple(range(7, 200)))

    def test_least(self):
        for seed in range(300):
            one = one_web(random.Random(seed), 7)
            self.assertEqual(kept(one), plainlink.kept(one))


class RoadTest(unittest.TestCase):
    def test_shortest_and_least(self):
        self.assertEqual(road(FORK, 3), (0, 1, 3))
        self.assertEqual(road(RING, 3), (0, 1, 2, 3))
        self.assertEqual(road(graph((2,), (2,), (3,), (), roots=(0, 1)), 3), (0, 2, 3))
        # A root on the way is nearer; the knot itself may be one.
        self.assertEqual(road(graph((1,), (2,), (), roots=(0, 1)), 2), (1, 2))
        self.assertEqual(road(web=graph((1,), (0,), roots=(0, 1)), knot=1), (1,))
        # The least first knot is not always on a shortest road.
        self.assertEqual(road(graph((1,), (2,), (5,), (4,), (5,), (), roots=(0, 3)), 5), (3, 4, 5))

    def test_against_all_roads(self):
        for seed in range(250):
            one = one_web(random.Random(seed), 6)
            for k in range(len(one[3])):
                all_of = list(plainlink.simple_roads(one, k))
                if not all_of:
                    for f in (road, holders, freed):
                        with self.assertRaises(NotKept) as e:
                            f(one, k)
                        self.assertEqual(e.exception.knot, k)
                    continue
                told = road(one, k)
                self.assertEqual(told, min(all_of, key=lambda r: (len(r), r)))
                self.assertIs(is_road(one, k, told), True)
                for other in all_of:
                    self.assertIs(is_road(one, k, other), True)
                on_all = set(all_of[0]).intersection(*all_of)
                self.assertEqual(holders(one, k), tuple(x for x in told if x in on_all))
                self.assertEqual(holders(one, k)[-1], k)
                free = [j for j in kept(one) if all(k in r for r in plainlink.simple_roads(one, j))]
                self.assertEqual(freed(one, k), tuple(free))

    def test_is_road(self):
        self.assertIs(is_road(RING, 1, (0, 1, 2, 3, 1)), True)
        self.assertIs(is_road(RING, 1, (0, 1)), True)
        for thing in WEIRD + (
            (), (1,), (0,), (0, 2, 1), (0, 1, 2), [0, 1], (0, True), (False, 1), (0, 1.0), (0, 1, 1), (5, 4, 1), (0, 6, 1),
            (0, -5), (0, None, 1), (0, 1, (2,)),
        ):
            self.assertIs(is_road(RING, 1, thing), False)
        self.assertIs(is_road(web=RING, knot=0, thing=(0,)), True)
        self.assertIs(is_road(RING, 5, (5,)), False)

    def test_near_roads(self):
        for other, by_kind in near((0, 1, 2, 3)):
            right = type(other) is tuple and all(type(k) is int and 0 <= k < 6 for k in other) and len(other) > 0
            if right:
                right = other[0] == 0 and other[-1] == 3 and all(
                    y in plainlink.leads(RING, x) for x, y in zip(other, other[1:]))
            self.assertIs(is_road(RING, 3, other), right)
            self.assertFalse(right and by_kind)


class HoldersTest(unittest.TestCase):
    def test_examples(self):
        self.assertEqual(holders(FORK, 4), (0, 3, 4))
        self.assertEqual(freed(FORK, 0), (0, 1, 2, 3, 4))
        self.assertEqual(freed(FORK, 1), (1,))
        self.assertEqual(freed(web=FORK, knot=3), (3, 4))
        self.assertEqual(holders(web=RING, knot=3), (0, 1, 2, 3))
        self.assertEqual(holders(graph((1,), (), roots=(0, 1)), 1), (1,))

    def test_holders_of_holders(self):
        for seed in range(250, 400):
            one = one_web(random.Random(seed), 8)
            for k in kept(one):
                told = holders(one, k)
                for at, j in enumerate(told):
                    self.assertEqual(holders(one, j), told[:at + 1])
                self.assertEqual(set(told), {j for j in kept(one) if k in freed(one, j)})


class KeepingErrorsTest(unittest.TestCase):
    def test_errors(self):
        for thing in WEIRD + tuple(other for other, _ in near(WEBS[1])):
            if plain.is_web(thing):
                continue
            with self.assertRaises(BadWeb):
                kept(thing)
            for f in (road, holders, freed):
                with self.assertRaises(BadWeb):
                    f(thing, 99)
            with self.assertRaises(BadWeb):
                is_road(thing, 99, None)
        for k in WEIRD + (6,):
            if type(k) is int and 0 <= k < 6:
                continue
            for f in (road, holders, freed):
                with self.assertRaises(BadKnot):
                    f(RING, k)
            with self.assertRaises(BadKnot):
                is_road(RING, k, (0, 1))


if __name__ == "__main__":
    unittest.main()
