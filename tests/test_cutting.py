import itertools
import random
import unittest

from onebase.cutting import cut, roads_apart
from onebase.keeping import is_road, kept
from onebase.webs import leads
from tests.making import alike_web, one_web
from tests.support import WEIRD, raised


def web(roots, *leads_of):
    """A web of code knots that call these."""
    return ("web", roots, (), tuple(
        ("knot", (k, "a"), "code", tuple(("call", x) for x in to) + (("return",),))
        for k, to in enumerate(leads_of)))


def reached(w, cut_):
    """Knots with a road on which no knot but the last one is of the cut."""
    found, waiting = set(), list(w[1])
    while waiting:
        here = waiting.pop()
        if here not in found:
            found.add(here)
            if here not in cut_:
                waiting += leads(w, here)
    return found


def brute_cut(w, knot):
    others = [k for k in range(len(w[3])) if k != knot]
    for many in range(len(others) + 1):
        found = [c for c in itertools.combinations(others, many) if knot not in reached(w, c)]
        if found:
            sizes = sorted((len(reached(w, c)), c) for c in found)
            return sizes[0][1], [c for size, c in sizes if size == sizes[0][0]]


class CuttingTest(unittest.TestCase):
    def check_roads(self, w, knot):
        roads = roads_apart(w, knot)
        self.assertEqual(len(roads), len(cut(w, knot)))
        for r in roads:
            self.assertTrue(is_road(w, knot, r), (w, knot, r))
        inner = [k for r in roads for k in r[:-1]]
        self.assertEqual(len(inner), len(set(inner)))
        self.assertNotIn(knot, inner)

    def test_by_hand(self):
        w = web((0, 2, 3), (1,), (0,), (2,), (4,), ())
        self.assertEqual(cut(w, 4), (3,))
        self.assertEqual(roads_apart(w, 4), ((3, 4),))
        self.assertEqual(cut(web=w, knot=1), (0,))
        self.assertEqual(roads_apart(web=w, knot=1), ((0, 1),))

    def test_the_nearest_to_the_roots(self):
        chain = web((0,), (1,), (2,), (3,), ())
        self.assertEqual(cut(chain, 3), (0,))
        # Two ways from one root, which itself is the least cut, and from two roots.
        self.assertEqual(cut(web((0,), (1, 2), (3,), (3,), ()), 3), (0,))
        self.assertEqual(cut(web((0, 1), (2,), (3,), (4,), (4,), ()), 4), (0, 1))
        self.assertEqual(cut(web((0, 1), (2,), (2,), (3,), ()), 3), (2,))
        self.assertEqual(cut(web((0, 1), (2,), (2, 3), (3,), ()), 3), (0, 1))
        # A root that other roots lead to is in the cut, too.
        self.assertEqual(cut(web((0, 1, 2), (2,), (2,), (3,), ()), 3), (2,))

    def test_ways_that_must_be_changed(self):
        # The first shortest way takes what both others need.
        w = web((0, 1), (2, 3), (2,), (4,), (5,), (6,), (6,), ())
        self.assertEqual(cut(w, 6), (0, 1))
        self.check_roads(w, 6)
        w = web((0, 1), (2, 3), (3,), (4, 5), (5,), (6,), (6,), ())
        self.check_roads(w, 6)
        self.assertEqual(cut(w, 6), brute_cut(w, 6)[0])

    def test_knots_that_lead_to_themselves(self):
        w = web((0,), (0, 1), (1, 2, 0), (2, 1))
        self.assertEqual(cut(w, 2), (0,))
        self.check_roads(w, 2)

    def test_made_up(self):
        """By going through all lots of knots; there is but one cut nearest to the roots."""
        many = 0
        for seed in range(1500):
            rng = random.Random(seed)
            if seed % 3 == 0:
                w = one_web(rng, 7)
            elif seed % 3 == 1:
                w = alike_web(rng, 7)
                w = ("web", tuple(sorted(set(rng.sample(w[1], min(2, len(w[1])))) | set(w[2]))), w[2], w[3])
            else:
                size = rng.randrange(3, 8)
                w = web(tuple(sorted(rng.sample(range(size), rng.randrange(1, 3)))), *[
                    [rng.randrange(size) for _ in range(rng.randrange(0, 4))] for _ in range(size)])
            for knot in kept(w):
                if knot not in w[1]:
                    best, all_of = brute_cut(w, knot)
                    self.assertEqual(len(all_of), 1)
                    self.assertEqual(cut(w, knot), best, (w, knot))
                    self.check_roads(w, knot)
                    many += len(best) > 1
        self.assertGreater(many, 100)

    def test_errors(self):
        w = web((0,), (1,), (), ())
        for f in (cut, roads_apart):
            for thing in WEIRD + (w[:3], list(w)):
                self.assertEqual(raised(f, thing, 0), ("BadWeb", {}))
            for knot in tuple(k for k in WEIRD if type(k) is not int) + (-1, 3, 64):
                self.assertEqual(raised(f, w, knot), ("BadKnot", {}))
            self.assertEqual(raised(f, w, 2), ("NotKept", {"knot": 2}))
            self.assertEqual(raised(f, w, 0), ("Rooted", {"knot": 0}))

    def test_many_knots(self):
        size = 200
        w = web((0, 1), *[[x for x in (k + 2, k + 3) if x < size] for k in range(size)])
        self.assertEqual(cut(w, size - 1), (0, 1))
        self.check_roads(w, size - 1)


if __name__ == "__main__":
    unittest.main()
