import random
import unittest

from onebase.errors import BadWeb
from onebase.folding import bodies, folded, main, told
from onebase.keeping import kept
from onebase.parting import classes
from onebase.webs import is_web
from tests import plain, plainlink
from tests.making import alike_web, one_web
from tests.support import WEIRD, near
from tests.test_parting import HAND
from tests.test_webs import WEBS, knot, rows, web


def made_up(many):
    for seed in range(many):
        rng = random.Random(seed)
        yield one_web(rng) if seed % 3 == 0 else alike_web(rng, 9)


def plain_folded(one):
    """The folded web, told anew from the document."""
    lots = min(plainlink.even_partings(one), key=len)
    seen = plainlink.told(one)
    with_body = []
    for lot in lots:
        with_body += [k for k in lot if k in seen] or [min(lot)]
    with_body.sort()
    first = {k: min(set(lot) & set(with_body)) for lot in lots for k in lot}

    def lead(word, x):
        if type(x) is not int:
            return x
        return with_body.index(x if word in ("take", "table") else first[x])

    _, roots, outs, knots = one
    codes = {k for k in outs if knots[k][2] == "code"}
    new_outs = {with_body.index(k) for k in codes} | {with_body.index(first[k]) for k in outs if k not in codes}
    new_roots = {with_body.index(first[k]) for k in roots} | {with_body.index(k) for k in codes}
    return ("web", tuple(sorted(new_roots)), tuple(sorted(new_outs)), tuple(
        knots[k][:3] + (plainlink.changed(knots[k][2], knots[k][3], lead),) for k in with_body))


class FoldingTest(unittest.TestCase):
    def test_example(self):
        self.assertEqual(told(HAND), ())
        self.assertEqual(bodies(HAND), ((0, (0, 1, 2)), (3, (3,)), (4, (4,))))
        self.assertEqual(main(web=HAND), {0: 0, 1: 0, 2: 0, 3: 3, 4: 4})
        self.assertEqual(folded(HAND), web(
            rows("a", ("call", 0), ("return",)), rows("d", ("call", 2), ("return",)),
            rows("e", ("show", 0), ("return",)), roots=(0, 1)))

    def test_example_with_a_table(self):
        one = ("web", (0, 2, 3, 5), (), HAND[3] + (knot("t", "table", (1, None, 2)),))
        self.assertEqual(told(web=one), (1, 2))
        self.assertEqual(bodies(one), ((1, (0, 1, 2)), (2, (0, 1, 2)), (3, (3,)), (4, (4,)), (5, (5,))))
        self.assertEqual(main(one), {0: 1, 1: 1, 2: 1, 3: 3, 4: 4, 5: 5})
        self.assertEqual(folded(one), web(
            rows("b", ("call", 0), ("return",)), rows("c", ("call", 0), ("return",)),
            rows("d", ("call", 3), ("return",)), rows("e", ("show", 0), ("return",)),
            knot("t", "table", (0, None, 1)), roots=(0, 2, 4)))

    def test_told(self):
        held = (rows("f", ("stop",)), rows("g", ("stop",)), rows("h", ("stop",)), knot("t", "table", (1, None, "x")),
                knot("d", "data", (1,)))
        takes = rows("a", ("take", 0, 0), ("take", 0, "x"), ("call", 2), ("pick", 0, 3, 0), ("stop",))
        self.assertEqual(told(web(*held, takes, roots=(5,))), (0, 1))
        self.assertEqual(told(web(*held, takes, roots=(4,))), ())
        self.assertEqual(told(web(*held, takes, roots=(2, 4, 5), outs=(2, 4))), (0, 1, 2))
        self.assertEqual(told(web(*held, takes, roots=(3,))), (1,))

    def test_exported_code_has_bodies_of_its_own(self):
        one = web(rows("a", ("show", 0), ("return",)), rows("b", ("show", 0), ("return",)),
                  rows("c", ("call", 0), ("call", 1), ("return",)), roots=(0, 1, 2), outs=(0, 1))
        self.assertEqual(bodies(one), ((0, (0, 1)), (1, (0, 1)), (2, (2,))))
        self.assertEqual(main(one), {0: 0, 1: 0, 2: 2})
        self.assertEqual(folded(web=one), web(
            rows("a", ("show", 0), ("return",)), rows("b", ("show", 0), ("return",)),
            rows("c", ("call", 0), ("call", 0), ("return",)), roots=(0, 1, 2), outs=(0, 1)))

    def test_other_exports_are_folded(self):
        one = web(knot("k", "const", (1,)), knot("l", "const", (1,)), knot("d", "data", (1,)), knot("e", "data", (1,)),
                  roots=(0, 1, 2, 3), outs=(0, 1, 2, 3))
        self.assertEqual(bodies(one), ((0, (0, 1)), (2, (2,)), (3, (3,))))
        self.assertEqual(folded(one), web(
            knot("k", "const", (1,)), knot("d", "data", (1,)), knot("e", "data", (1,)), roots=(0, 1, 2), outs=(0, 1, 2)))

    def test_gotos_and_jumps_stay(self):
        one = web(rows("a", ("show", 0), ("jump", 1)), rows("b", ("show", 0), ("goto", 0)), roots=(0,))
        self.assertEqual(folded(one), web(rows("a", ("show", 0), ("jump", 0)), roots=(0,)))
        one = web(rows("a", ("show", 0), ("goto", 0)), rows("b", ("show", 0), ("jump", 0)), roots=(0, 1))
        self.assertEqual(folded(one), web(rows("a", ("show", 0), ("goto", 0)), roots=(0,)))

    def test_first_body_is_not_always_the_first_knot(self):
        one = web(rows("a", ("show", 0), ("return",)), rows("b", ("show", 0), ("return",)),
                  rows("c", ("show", 0), ("return",)), rows("d", ("take", 0, 2), ("call", 0), ("stop",)), roots=(0, 1, 3))
        self.assertEqual(bodies(one), ((2, (0, 1, 2)), (3, (3,))))
        self.assertEqual(main(one), {0: 2, 1: 2, 2: 2, 3: 3})
        self.assertEqual(folded(one)[1:3], ((0, 1), ()))

    def test_empty(self):
        self.assertEqual((told(web()), bodies(web()), main(web()), folded(web())), ((), (), {}, web()))

    def test_made_up(self):
        fewer = 0
        for one in made_up(300):
            self.assertEqual(told(one), plainlink.told(one))
            lots = classes(one)
            found = bodies(one)
            self.assertEqual(list(found), sorted(found))
            self.assertEqual({lot for _, lot in found}, set(lots))
            for lot in lots:
                held = [k for k, other in found if other == lot]
                self.assertEqual(held, [k for k in lot if k in told(one)] or [lot[0]])
                self.assertEqual({main(one)[k] for k in lot}, {held[0]})
            self.assertEqual(list(main(one)), list(kept(one)))
            fewer += len(found) < len(kept(one))
        self.assertGreater(fewer, 50)

    def test_folded_as_told(self):
        for seed in range(200):
            rng = random.Random(seed)
            one = one_web(rng) if seed % 3 == 0 else alike_web(rng, 6)
            self.assertEqual(folded(one), plain_folded(one))

    def test_folded_once_is_folded_for_good(self):
        for one in made_up(300):
            thin = folded(one)
            self.assertIs(is_web(thin), True)
            self.assertTrue(plain.is_web(thin))
            self.assertEqual(kept(thin), tuple(range(len(thin[3]))))
            self.assertEqual(folded(thin), thin)
            self.assertEqual(len(thin[3]), len(bodies(one)))
            self.assertEqual([k[1] for k in thin[3]], [one[3][k][1] for k, _ in bodies(one)])

    def test_what_is_told_is_new_each_time(self):
        found = main(HAND)
        found[0] = 9
        self.assertEqual(main(HAND)[0], 0)

    def test_errors(self):
        for thing in WEIRD + tuple(other for other, _ in near(WEBS[1])):
            if not plain.is_web(thing):
                for f in (told, bodies, main, folded):
                    with self.assertRaises(BadWeb):
                        f(thing)


if __name__ == "__main__":
    unittest.main()
