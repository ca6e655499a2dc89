import itertools
import random
import time
import unittest

from onebase.folding import bodies
from onebase.keeping import kept
from onebase.parting import classes
from onebase.sizes import is_paper, paper, weight
from tests import plainlink
from tests.making import one_web
from tests.support import WEIRD, near, raised, weird_near
from tests.test_roadwords import drawn, plain_tells
from tests.test_shapes import FIVE
from tests.webs import chain, knot, web

FIVE_LOTS = ((0, 1, 2), (3,), (4,))
FIVE_PAPER = ("paper", ((0,), (0, 1), (2,), (3,), (3, 4)), ((0,),))


def long(held, k):
    _, _, sort, body = held[3][k]
    return body if sort == "room" else len(body)


def plain_weight(held, lots):
    seen = plainlink.told(held)
    chosen = [k for lot in lots for k in ([x for x in lot if x in seen] or lot[:1])]
    return len(chosen), sum(long(held, k) for k in chosen)


def is_lots(thing, many):
    if type(thing) is not tuple or any(type(lot) is not tuple or not lot for lot in thing):
        return False
    if any(type(k) is not int or not 0 <= k < many for lot in thing for k in lot):
        return False
    return all(list(lot) == sorted(set(lot)) for lot in thing)


def plain_is_paper(held, lots, thing):
    """The second reading of is_paper."""
    if not is_lots(lots, len(held[3])):
        return False
    knots = [k for lot in lots for k in lot]
    if len(set(knots)) < len(knots) or not set(held[1]) <= set(knots):
        return False
    if any(x not in knots for k in knots for x in plainlink.leads(held, k)) or not plainlink.is_even(held, lots):
        return False
    if type(thing) is not tuple or len(thing) != 3 or type(thing[0]) is not str or thing[0] != "paper":
        return False
    _, roads, words = thing
    if type(roads) is not tuple or type(words) is not tuple:
        return False
    for road in roads:
        if type(road) is not tuple or not road or any(type(k) is not int or not 0 <= k < len(held[3]) for k in road):
            return False
        if road[0] not in held[1] or any(b not in plainlink.leads(held, a) for a, b in zip(road, road[1:])):
            return False
    for word in words:
        if type(word) is not tuple or len(word) > 200 or any(type(n) is not int or n < 0 for n in word):
            return False
    if any(k not in [road[-1] for road in roads] for k in knots):
        return False
    return all(any(plain_tells(held, one[0], other[0], word) for word in words) for one, other in itertools.combinations(lots, 2))


class WeightTest(unittest.TestCase):
    def test_by_hand(self):
        self.assertEqual(weight(FIVE, FIVE_LOTS), (3, 6))
        self.assertEqual(weight(web=FIVE, parting=((0,), (1,), (2,), (3,), (4,))), (5, 10))
        self.assertEqual(weight(web((), ()), ()), (0, 0))
        # Each told knot has a body; rows, cells, items and the length of a room count.
        held = web((0, 1), (1,), knot("a", ("take", 0, 2), ("load", 0, 5, 0), ("load", 0, 6, 0), ("pick", 0, 7, 0), ("stop",)), knot("b", ("stop",)),
                   knot("c", ("stop",)), knot("d", ("stop",)), knot("e", ("stop",)), ("knot", (0, "r"), "room", 9), ("knot", (0, "k"), "const", (1,) * 7),
                   ("knot", (0, "t"), "table", (None, 3, None)))
        self.assertEqual(classes(held), ((0,), (1, 2, 3), (5,), (6,), (7,)))
        self.assertEqual(weight(held, classes(held)), (7, 5 + 3 + 9 + 7 + 3))
        self.assertEqual(weight(held, ((0,), (1,), (2, 3), (5,), (6,), (7,))), (7, 27))

    def test_least(self):
        """HEART: no even parting has fewer bodies than classes, and none a smaller sum."""
        seen = 0
        for rng, held in drawn(250):
            least = weight(held, classes(held))
            self.assertEqual(least[0], len(bodies(held)))
            for lots in plainlink.even_partings(held):
                told = weight(held, lots)
                self.assertEqual(told, plain_weight(held, lots))
                self.assertLessEqual(least[0], told[0])
                self.assertLessEqual(least[1], told[1])
                seen += told != least
        self.assertGreater(seen, 80)

    def test_wrong_inputs(self):
        for thing in WEIRD:
            self.assertEqual(raised(weight, thing, thing), ("BadWeb", {}))
            self.assertEqual(raised(weight, FIVE, thing), ("BadParting", {}))
        for thing, _ in near(FIVE_LOTS):
            right = is_lots(thing, 5) and sorted(k for lot in thing for k in lot) == [0, 1, 2, 3, 4] and plainlink.is_even(FIVE, thing)
            self.assertEqual(raised(weight, FIVE, thing)[0], "told" if right else "BadParting", thing)
        for thing in (((0, 3), (1, 2), (4,)), ((0, 1), (2, 3), (4,)), ((0, 1, 2, 3, 4),)):
            self.assertEqual(raised(weight, FIVE, thing), ("BadParting", {}))


class PaperTest(unittest.TestCase):
    def test_by_hand(self):
        told = paper(web=FIVE)
        self.assertTrue(plain_is_paper(FIVE, FIVE_LOTS, told))
        self.assertEqual((len(told[1]), len(told[2]) < 3), (5, True))
        self.assertIs(is_paper(web=FIVE, parting=FIVE_LOTS, thing=FIVE_PAPER), True)
        self.assertEqual(paper(web((), (), knot("a", ("stop",)))), ("paper", (), ()))
        self.assertIs(is_paper(web((), (), knot("a", ("stop",))), (), ("paper", (), ())), True)
        self.assertEqual(paper(web((0,), (), knot("a", ("stop",)))), ("paper", ((0,),), ()))
        # Two that only the word () tells apart.
        held = web((0, 1), (), knot("a", ("stop",)), knot("b", ("return",)))
        self.assertEqual(paper(held)[2], ((),))
        self.assertIs(is_paper(held, ((0,), (1,)), ("paper", ((0,), (1,)), ())), False)
        # More roads and words do no harm, nor does the order of lots.
        self.assertIs(is_paper(FIVE, FIVE_LOTS[::-1], ("paper", FIVE_PAPER[1] * 2 + ((0, 1, 0, 1),), ((7, 7),) + FIVE_PAPER[2])), True)

    def test_drawn_webs(self):
        for rng, held in drawn(400, 7):
            lots = classes(held)
            told = paper(held)
            self.assertTrue(plain_is_paper(held, lots, told))
            self.assertIs(is_paper(held, lots, told), True)
            # In any order of the classes, of the roads and of the words.
            mixed = [list(lots), list(told[1]), list(told[2])]
            for some in mixed:
                rng.shuffle(some)
            self.assertIs(is_paper(held, tuple(mixed[0]), ("paper", tuple(mixed[1]), tuple(mixed[2]))), True)
            self.assertEqual(len(told[1]), len(kept(held)))
            self.assertLess(len(told[2]), max(len(lots), 1))

    def test_just_the_classes(self):
        """HEART: a parting has a paper that is_paper takes exactly if it has just the lots of classes."""
        seen = {True: 0, False: 0}
        for rng, held in drawn(200):
            lots = classes(held)
            told = paper(held)
            words = tuple(itertools.islice((w for many in range(4) for w in itertools.product(range(4), repeat=many)), 85))
            full = ("paper", told[1], words + told[2])
            for other in plainlink.partings(list(kept(held))):
                right = sorted(other) == list(lots)
                for thing in (told, full):
                    self.assertIs(is_paper(held, other, thing), right)
                    self.assertEqual(plain_is_paper(held, other, thing), right)
                seen[right] += 1
            # With knots that are not kept there is no road, whatever else is right.
            rest = [k for k in range(len(held[3])) if k not in kept(held)]
            for k in rest:
                self.assertIs(is_paper(held, lots + ((k,),), full), False)
        self.assertGreater(min(seen.values()), 150, seen)

    def test_near_right_ones(self):
        held = web((0, 3), (0,), knot("a", ("call", 1), ("goto", 0)), knot("b", ("call", 2), ("jump", 1)), knot("c", ("call", 2), ("goto", 0)),
                   knot("d", ("call", 0), ("return",)), knot("e", ("stop",)))
        self.assertEqual(classes(held), ((0, 1, 2), (3,)))
        for some, lots, told in ((FIVE, FIVE_LOTS, FIVE_PAPER), (held, classes(held), paper(held)), (FIVE, FIVE_LOTS, paper(FIVE))):
            seen = {True: 0, False: 0}
            for other, by_kind in near(told):
                right = is_paper(some, lots, other)
                self.assertIs(right, plain_is_paper(some, lots, other), other)
                self.assertFalse(right and by_kind)
                seen[right] += 1
            self.assertGreater(min(seen.values()), 2, seen)
            for other in itertools.chain(weird_near(told), WEIRD):
                self.assertIs(is_paper(some, lots, other), plain_is_paper(some, lots, other))
            for other, by_kind in near(lots):
                right = is_paper(some, other, told)
                self.assertIs(right, plain_is_paper(some, other, told), other)
                self.assertFalse(right and by_kind)
            for other in itertools.chain(weird_near(lots), WEIRD):
                self.assertIs(is_paper(some, other, told), plain_is_paper(some, other, told))

    def test_lots_that_are_none(self):
        for lots in (FIVE_LOTS + ((),), ((),) + FIVE_LOTS, FIVE_LOTS + ((4,),), FIVE_LOTS + ((0, 1, 2),), ((0, 1), (2,), (3,), (4,)), ((0, 1, 2), (4,)),
                     ((0, 2, 1), (3,), (4,)), ((0, 0, 1, 2), (3,), (4,)), (), ((),)):
            self.assertIs(is_paper(FIVE, lots, FIVE_PAPER), False)

    def test_words_of_two_hundred(self):
        for many, right in ((200, True), (201, False)):
            self.assertIs(is_paper(FIVE, FIVE_LOTS, ("paper", FIVE_PAPER[1], ((0,) * many,))), right)
        for word, right in (((0, -1), False), ((0, 10 ** 20), True), ((10 ** 20, 0), False), ([0], False)):
            self.assertIs(is_paper(FIVE, FIVE_LOTS, ("paper", FIVE_PAPER[1], (word,))), right)

    def test_wrong_webs(self):
        for thing in WEIRD:
            self.assertEqual(raised(paper, thing), ("BadWeb", {}))
            self.assertEqual(raised(is_paper, thing, FIVE_LOTS, FIVE_PAPER), ("BadWeb", {}))

    def test_many_calls_end(self):
        began = time.process_time()
        for back in (False, True):
            held = chain(100, back)
            lots = classes(held)
            for _ in range(60):
                told = paper(held)
                self.assertIs(is_paper(held, lots, told), True)
                self.assertEqual(weight(held, lots), (100, 200))
        for seed in range(500):
            held = one_web(random.Random(seed))
            is_paper(held, classes(held), paper(held))
        self.assertLess(time.process_time() - began, 20)


if __name__ == "__main__":
    unittest.main()
