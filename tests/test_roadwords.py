import itertools
import random
import time
import unittest

from onebase.keeping import kept
from onebase.parting import classes, front
from onebase.roadwords import behind, tells, word_apart
from tests import plainlink
from tests.making import alike_web, one_web
from tests.support import WEIRD, raised
from tests.test_shapes import FIVE
from tests.webs import chain, far_web, knot, web


def plain_behind(held, k, word):
    for n in word:
        if k is not None:
            k = plainlink.steps(held, k).get(n)
    return k


def plain_tells(held, one, other, word):
    for many in range(len(word) + 1):
        here, there = plain_behind(held, one, word[:many]), plain_behind(held, other, word[:many])
        if here is not None and there is not None and plainlink.front(held, here) != plainlink.front(held, there):
            return True
    return False


def words(held, most):
    """All words of so many numbers of rows, the shortest first, each length ascending."""
    rows = max([len(k[3]) for k in held[3] if k[2] == "code"] or [0])
    for many in range(most + 1):
        yield from itertools.product(range(rows), repeat=many)


def drawn(many, most=5):
    for seed in range(many):
        rng = random.Random(seed)
        made_up = (one_web(rng, most), alike_web(rng, most), far_web(rng, rng.randrange(2, most + 2)))
        yield rng, made_up[seed % 3]


class BehindTest(unittest.TestCase):
    def test_by_hand(self):
        self.assertEqual(behind(FIVE, 0, ()), 0)
        self.assertEqual(behind(web=FIVE, knot=0, word=(0,)), 1)
        self.assertEqual([behind(FIVE, 0, (0,) * many) for many in range(4)], [0, 1, 0, 1])
        for word in ((1,), (0, 1), (2,), (10 ** 30,), (1, 0)):
            self.assertIsNone(behind(FIVE, 0, word))
        self.assertEqual(behind(FIVE, 3, (0,)), 4)
        self.assertIsNone(behind(FIVE, 3, (0, 0)))
        # Steps are gotos, calls, tries, jumps, picks, and what reads consts; no takes, data, slots or items of tables.
        held = web((0,), (), knot("a", ("goto", 0), ("call", 1), ("try", 1, 0), ("pick", 0, 2, 0), ("load", 0, 3, 0), ("item", 0, 3, 0), ("take", 0, 1),
                                  ("load", 0, 4, 0), ("store", 0, 4, 0), ("call", "x"), ("jump", 1)), knot("b", ("return",)),
                   ("knot", (0, "t"), "table", (1,)), ("knot", (0, "k"), "const", (7,)), ("knot", (0, "d"), "data", (7,)))
        self.assertEqual([behind(held, 0, (n,)) for n in range(12)], [0, 1, 1, 2, 3, 3, None, None, None, None, 1, None])
        self.assertEqual(behind(held, 0, (0, 0, 10)), 1)
        for k in (2, 3, 4):
            self.assertIsNone(behind(held, k, (0,)))

    def test_drawn_webs(self):
        for rng, held in drawn(200):
            for k in range(len(held[3])):
                for word in itertools.islice(words(held, 3), 80):
                    self.assertEqual(behind(held, k, word), plain_behind(held, k, word))

    def test_wrong_inputs(self):
        for thing in WEIRD + ((0, -1), (-1,), [0], (True,), (0, "0"), (1.0,), (None,)):
            if type(thing) is tuple and all(type(n) is int and n >= 0 for n in thing):
                continue
            self.assertEqual(raised(behind, FIVE, 0, thing), ("BadWord", {}))
            self.assertEqual(raised(tells, FIVE, 0, 1, thing), ("BadWord", {}))
            if not (type(thing) is int and 0 <= thing < 5):
                self.assertEqual(raised(behind, FIVE, thing, thing), ("BadKnot", {}))
                self.assertEqual(raised(tells, FIVE, 0, thing, thing), ("BadKnot", {}))
                self.assertEqual(raised(tells, FIVE, thing, 0, thing), ("BadKnot", {}))
                self.assertEqual(raised(word_apart, FIVE, thing, 0), ("BadKnot", {}))
                self.assertEqual(raised(word_apart, FIVE, 0, thing), ("BadKnot", {}))
            self.assertEqual(raised(behind, thing, thing, thing), ("BadWeb", {}))
            self.assertEqual(raised(tells, thing, thing, thing, thing), ("BadWeb", {}))
            self.assertEqual(raised(word_apart, thing, thing, thing), ("BadWeb", {}))


class TellsTest(unittest.TestCase):
    def test_by_hand(self):
        self.assertIs(tells(FIVE, 0, 3, (0,)), True)
        self.assertIs(tells(web=FIVE, one=0, other=3, word=()), False)
        self.assertIs(tells(FIVE, 0, 4, ()), True)
        # Some beginning of it tells them apart, whatever comes behind.
        for word in ((0, 7), (0, 0, 0), (0, 1, 9)):
            self.assertIs(tells(FIVE, 0, 3, word), True)
        for word in ((1,), (1, 0), (7, 0)):
            self.assertIs(tells(FIVE, 0, 3, word), False)
        self.assertIs(tells(FIVE, 0, 2, (0,) * 50), False)
        self.assertIs(tells(FIVE, 4, 4, ()), False)

    def test_drawn_webs(self):
        seen = {True: 0, False: 0}
        for rng, held in drawn(200):
            for one, other in itertools.product(range(len(held[3])), repeat=2):
                for word in itertools.islice(words(held, 3), 30):
                    told = tells(held, one, other, word)
                    self.assertIs(told, plain_tells(held, one, other, word))
                    seen[told] += 1
        self.assertGreater(min(seen.values()), 1000)


class WordApartTest(unittest.TestCase):
    def test_example_by_hand(self):
        self.assertEqual(word_apart(FIVE, 0, 3), (0,))
        self.assertEqual(word_apart(web=FIVE, one=0, other=4), ())
        self.assertIsNone(word_apart(FIVE, 0, 2))
        self.assertIsNone(word_apart(FIVE, 3, 3))

    def test_least_of_the_shortest(self):
        """By trying all words; None exactly for alike ones."""
        seen = {}
        for rng, held in drawn(250):
            lots = classes(held)
            for one, other in itertools.product(kept(held), repeat=2):
                told = word_apart(held, one, other)
                if [one in lot for lot in lots] == [other in lot for lot in lots]:
                    self.assertIsNone(told)
                    continue
                least = next((word for word in words(held, 4) if plain_tells(held, one, other, word)), None)
                if least is not None or len(told) < 5:
                    self.assertEqual(told, least)
                # HEART: of at most n - 2 numbers.
                self.assertLessEqual(len(told), max(len(lots) - 2, 0))
                seen[len(told)] = seen.get(len(told), 0) + 1
        self.assertGreater(seen[1], 100, seen)
        self.assertGreater(seen[2], 50, seen)
        self.assertGreater(seen[3], 10, seen)

    def test_least_by_rows(self):
        a, b, e = ("show", 1), ("show", 2), ("return",)
        held = web((0, 1), (), knot("a", ("call", 2), ("call", 4), ("call", 3), e), knot("b", ("call", 2), ("call", 5), ("call", 4), e),
                   knot("c", a, e), knot("d", a, e), knot("f", b, e), knot("g", b, e))
        self.assertEqual(word_apart(held, 0, 1), (2,))
        # Two words of one length: the least; a shorter one ahead of all.
        x = knot("c", ("call", 4), ("call", 4), e)
        y = knot("d", ("call", 4), ("call", 5), e)
        held = web((0, 1), (), knot("a", ("call", 2), ("call", 2), e), knot("b", ("call", 3), ("call", 3), e), x, y, knot("f", a, e), knot("g", b, e))
        self.assertEqual(word_apart(held, 0, 1), (0, 1))
        held = web((0, 1), (), knot("a", ("call", 2), ("call", 4), e), knot("b", ("call", 3), ("call", 5), e), x, y, knot("f", a, e), knot("g", b, e))
        self.assertEqual(word_apart(held, 0, 1), (1,))

    def test_chains(self):
        """All pairs of a chain: of the first two the word has n - 2 numbers."""
        for many in (2, 3, 9):
            held = chain(many)
            for one, other in itertools.combinations(range(many), 2):
                self.assertEqual(word_apart(held, one, other), (0,) * (many - 1 - other))
                self.assertEqual(word_apart(held, other, one), (0,) * (many - 1 - other))
        began = time.process_time()
        held = chain(100)
        for one in range(0, 100, 3):
            for other in range(0, 100, 7):
                if one != other:
                    self.assertEqual(len(word_apart(held, one, other)), 99 - max(one, other))
        for _ in range(200):
            self.assertEqual(behind(held, 0, (0,) * 99), 99)
            self.assertIs(tells(held, 0, 1, (0,) * 98), True)
            self.assertIs(tells(held, 0, 1, (0,) * 97), False)
        self.assertLess(time.process_time() - began, 20)

    def test_not_kept(self):
        held = web((0,), (), knot("a", ("return",)), knot("b", ("return",)), knot("c", ("show", 0), ("return",)))
        self.assertEqual(raised(word_apart, held, 1, 2), ("NotKept", {"knot": 1}))
        self.assertEqual(raised(word_apart, held, 0, 2), ("NotKept", {"knot": 2}))
        self.assertEqual(raised(word_apart, held, 2, 9), ("BadKnot", {}))
        self.assertEqual(raised(word_apart, held, 1, 1), ("NotKept", {"knot": 1}))
        # The other two ask it not.
        self.assertIs(tells(held, 1, 2, ()), True)
        self.assertEqual(behind(held, 2, ()), 2)
        self.assertEqual(front(held, 1), front(held, 0))


if __name__ == "__main__":
    unittest.main()
