import random
import time
import unittest

from onebase.keeping import kept
from onebase.parting import classes, front
from onebase.shapes import shape
from tests import plainlink
from tests.making import alike_web, one_web
from tests.support import WEIRD, raised
from tests.webs import chain, knot, web

# The web of [49]: a, b call one another, c itself, d calls e.
FIVE = web((0, 2, 3), (), knot("a", ("call", 1), ("return",)), knot("b", ("call", 0), ("return",)), knot("c", ("call", 2), ("return",)),
           knot("d", ("call", 4), ("return",)), knot("e", ("show", 0), ("return",)))


def plain_shape(held, k, deep):
    """The second reading: the front, then the shapes in the places of the empty words, in order."""
    sort, body = plainlink.front(held, k)
    steps = plainlink.steps(held, k)
    if deep == 0 or not steps:
        return sort, body
    rows = []
    for n, r in enumerate(body):
        rows.append(tuple(plain_shape(held, steps[n], deep - 1) if part == "" else part for part in r))
    return sort, tuple(rows)


def fronts_in(held, k, deep):
    """How many fronts stand in the shape; of more than some thousand it is not asked how many."""
    many = [1] * len(held[3])
    for _ in range(deep):
        many = [min(5000, 1 + sum(many[x] for x in plainlink.steps(held, here).values())) for here in range(len(many))]
    return many[k]


class ShapeTest(unittest.TestCase):
    def test_by_hand(self):
        e = ("code", (("show", 0), ("return",)))
        d = ("code", (("call", e), ("return",)))
        self.assertEqual(shape(FIVE, 4, 0), e)
        self.assertEqual(shape(FIVE, 4, 60), e)
        self.assertEqual(shape(FIVE, 3, 0), ("code", (("call", ""), ("return",))))
        self.assertEqual(shape(web=FIVE, knot=3, deep=1), d)
        self.assertEqual(shape(FIVE, 3, 2), d)
        c = ("code", (("call", ""), ("return",)))
        for deep in range(4):
            for k in (0, 1, 2):
                self.assertEqual(shape(FIVE, k, deep), c)
            c = ("code", (("call", c), ("return",)))

    def test_gotos_jumps_and_leads(self):
        held = web((0,), (), knot("a", ("show", 0), ("goto", 0)), knot("b", ("show", 0), ("jump", 0)),
                   knot("c", ("try", 0, 1), ("pick", 0, 4, 2), ("take", 1, 0), ("item", 3, 5, 1), ("load", 2, 6, 0), ("call", "x"), ("goto", 3)),
                   ("knot", (0, "d"), "data", (1, 2)), ("knot", (0, "t"), "table", (0, None, "x")), ("knot", (0, "k"), "const", (7,)),
                   ("knot", (0, "l"), "const", (8,)))
        loop = ("code", (("show", 0), ("goto", "", 0)))
        self.assertEqual([shape(held, k, 0) for k in (0, 1)], [loop] * 2)
        again = ("code", (("show", 0), ("goto", loop, 0)))
        self.assertEqual([shape(held, k, 1) for k in (0, 1)], [again] * 2)
        told = shape(held, 2, 1)
        table, const = ("table", (0, None, "x")), ("const", (7,))
        self.assertEqual(told, ("code", (("try", loop, 1), ("pick", 0, table, 2), ("take", 1, 0), ("item", 3, const, 1), ("load", 2, ("const", (8,)), 0),
                                         ("call", "x"), ("goto", shape(held, 2, 0), 3))))
        for deep in (0, 1, 60):
            self.assertEqual([shape(held, k, deep) for k in (3, 4, 5)], [("data", 3), table, const])

    def test_too_many(self):
        """400 fronts are let, 401 are not: each counted as often as it stands there."""
        for many, more, deep in ((2, 0, 7), (2, 0, 8), (1, 0, 60), (3, 0, 5), (3, 0, 4), (39, 0, 1), (39, 0, 2)):
            held = web((0,), (), knot("a", *[("call", 0)] * many, ("return",)))
            fronts = sum(many ** at for at in range(deep + 1))
            if fronts > 400:
                self.assertEqual(raised(shape, held, 0, deep), ("TooMany", {"most": 400}))
            else:
                self.assertEqual(shape(held, 0, deep), plain_shape(held, 0, deep))
        # Just 400 and 401: one front, 38 of ten, one with as many more as it has calls.
        for calls, right in ((18, "told"), (19, "TooMany")):
            held = web((0,), (), knot("a", *[("call", 1)] * 38, ("jump", 2)), knot("b", *[("call", 3)] * 9, ("return",)),
                       knot("c", *[("call", 3)] * calls, ("return",)), knot("d", ("return",)))
            self.assertEqual(fronts_in(held, 0, 2), 382 + calls)
            self.assertEqual(raised(shape, held, 0, 2)[0], right)
        self.assertEqual(raised(shape, web((0,), (), knot("a", *[("call", 0)] * 39, ("return",))), 0, 60), ("TooMany", {"most": 400}))

    def test_drawn_webs(self):
        seen = {True: 0, False: 0}
        for seed in range(300):
            rng = random.Random(seed)
            held = one_web(rng) if seed % 2 else alike_web(rng)
            for k in range(len(held[3])):
                for deep in (0, 1, 2, 3, 7, 60):
                    right = fronts_in(held, k, deep) <= 400
                    seen[right] += 1
                    if right:
                        self.assertEqual(shape(held, k, deep), plain_shape(held, k, deep))
                    else:
                        self.assertEqual(raised(shape, held, k, deep), ("TooMany", {"most": 400}))
                self.assertEqual(shape(held, k, 0), front(held, k))
        self.assertGreater(min(seen.values()), 30, seen)

    def test_unrolled(self):
        """HEART: kept knots are alike exactly if their shapes are equal n - 2 deep, n the number of classes."""
        pairs = {True: 0, False: 0}
        for seed in range(300):
            rng = random.Random(seed)
            held = one_web(rng) if seed % 2 else alike_web(rng)
            lots = classes(held)
            number = {k: at for at, lot in enumerate(lots) for k in lot}
            for deep in (max(len(lots) - 2, 0), len(lots), len(lots) + 3):
                told = {k: raised(shape, held, k, deep) for k in kept(held)}
                for one in told:
                    for other in told:
                        if told[one][0] == told[other][0] == "told" and len(lots) > 1:
                            self.assertEqual(told[one] == told[other], number[one] == number[other])
                            pairs[number[one] == number[other]] += one != other
        self.assertGreater(min(pairs.values()), 300, pairs)

    def test_depth_that_is_needed(self):
        """Of a chain of n classes the first two come apart n - 2 deep, not sooner."""
        for many in (3, 5, 12, 40, 62):
            held = chain(many)
            self.assertEqual(shape(held, 0, many - 3), shape(held, 1, many - 3))
            self.assertNotEqual(shape(held, 0, many - 2), shape(held, 1, many - 2))

    def test_wrong_inputs(self):
        for thing in WEIRD + (-1, 61, 60.0, "0", (0,)):
            if type(thing) is int and 0 <= thing <= 60:
                continue
            self.assertEqual(raised(shape, FIVE, 0, thing), ("BadDepth", {}))
            if not (type(thing) is int and 0 <= thing <= 4):
                self.assertEqual(raised(shape, FIVE, thing, thing), ("BadKnot", {}))
            self.assertEqual(raised(shape, thing, thing, thing), ("BadWeb", {}))
        self.assertEqual(raised(shape, FIVE, 5, None), ("BadKnot", {}))
        self.assertEqual(raised(shape, FIVE, 0, 61), ("BadDepth", {}))
        # BadDepth ahead of TooMany.
        self.assertEqual(raised(shape, web((0,), (), knot("a", *[("call", 0)] * 39, ("return",))), 0, 61), ("BadDepth", {}))

    def test_many_calls_end(self):
        began = time.process_time()
        held = chain(100)
        for k in range(100):
            shape(held, k, 60)
        for seed in range(300):
            small = one_web(random.Random(seed))
            for k in range(len(small[3])):
                raised(shape, small, k, 5)
        self.assertLess(time.process_time() - began, 20)


if __name__ == "__main__":
    unittest.main()
