import functools
import itertools
import random
import unittest

from onebase.codes import instruction
from onebase.errors import BadBranch, BadBundle, BadLot
from onebase.widths import branches, distance, far, forced, grown, is_forced, places, waves
from tests import plain
from tests.making import one_bundle
from tests.support import WEIRD, near
from tests.test_bundles import HAND, RICH

SHOW = ("show", 0)
END = ("return",)


def program(*bodies, wants=()):
    return ("bundle", "", 0, (), wants, (), (), tuple(
        ("body", "code", (("u", "k" + chr(97 + at)),), rows) for at, rows in enumerate(bodies)))


def two_cells(many):
    """Rows of so many cells, at least two, that are no branches."""
    if many % 2:
        return (("set", 0, 0),) + (SHOW,) * ((many - 3) // 2)
    return (SHOW,) * (many // 2)


def cells(many):
    """Rows of so many cells that are no branches, few of them."""
    sixes = [("item", 0, "y", 0)] * max((many - 3) // 6, 0)
    return tuple(sixes) + two_cells(many - 6 * len(sixes)) if many else ()


Y = (("y", "data", 2, False),)


# The plain reading: every row laid down as an instruction with no distance.
SENSES = {
    "item": lambda r, by: (by + "item", 0, 0, 1, 0), "fill": lambda r, by: (by + "fill", 0, 0, 1, 0),
    "pick": lambda r, by: (by + "pick", 0, 0, 1, 0), "take": lambda r, by: (by + "take", 0, 0),
    "call": lambda r, by: (by + "call", 0), "try": lambda r, by: (by + "call", 0),
    "jump": lambda r, by: (by + "jump", 0), "goto": lambda r, by: ("jump", 0), "if": lambda r, by: ("if", 0, 0),
    "load": lambda r, by: (by + "load", 0, 0, 0) if by else ("load", 0, 0),
    "store": lambda r, by: (by + "store", 0, 0, 0) if by else ("store", 0, 0),
}


def by_name(r):
    return any(type(part) is str for part in r[1:])


def is_branch(r):
    return r[0] in ("goto", "if") or (r[0] in ("call", "try", "jump") and not by_name(r))


@functools.lru_cache(None)
def size(r, long):
    sense = SENSES[r[0]](r, "by " if by_name(r) else "") if r[0] in SENSES else r
    widths = [many for many in range(1, 7) if laid(sense, many)]
    if is_branch(r):
        return widths[1] if long else widths[0]
    return widths[-1]


def laid(sense, many):
    try:
        instruction(sense, many)
        return True
    except ValueError:
        return False


def layout(bundle, long):
    at, found = 0, []
    for b, held in enumerate([one[3] for one in bundle[7] if one[1] == "code"]):
        starts = [at]
        for n, r in enumerate(held):
            at += size(r, (b, n) in long)
            starts.append(at)
        found.append(tuple(starts))
    return tuple(found)


def plain_branches(bundle):
    return tuple((b, n) for b, one in enumerate(bundle[7]) if one[1] == "code"
                 for n, r in enumerate(one[3]) if is_branch(r))


def plain_distance(bundle, long, branch):
    starts = layout(bundle, long)
    b, n = branch
    r = bundle[7][b][3][n]
    aim = starts[b][r[-1]] if r[0] in ("goto", "if") else starts[r[1]][0]
    return aim - starts[b][n + 1]


def plain_far(bundle, long):
    return tuple(x for x in plain_branches(bundle)
                 if x not in long and not -32 <= plain_distance(bundle, long, x) <= 31)


def lots(bundle):
    all_of = plain_branches(bundle)
    for many in range(len(all_of) + 1):
        yield from itertools.combinations(all_of, many)


def made_up(many, first=0, most=8):
    seed = first
    while many:
        bundle = one_bundle(random.Random(seed), 3) if seed % 3 else one_bundle(random.Random(seed), 8, 14, 5)
        seed += 1
        if len(plain_branches(bundle)) <= most and plain_far(bundle, ()):
            many -= 1
            yield bundle


class PlacesTest(unittest.TestCase):
    def test_example(self):
        self.assertEqual(branches(HAND), ((0, 0),))
        self.assertEqual(places(HAND, ()), ((0, 2, 4, 5), (5, 9, 10)))
        self.assertEqual(places(bundle=HAND, long=((0, 0),)), ((0, 3, 5, 6), (6, 10, 11)))
        self.assertEqual(distance(HAND, (), (0, 0)), 3)
        self.assertEqual(distance(bundle=HAND, long=((0, 0),), branch=(0, 0)), 3)
        self.assertEqual(waves(HAND), ())
        self.assertEqual([lot for lot in lots(HAND) if far(HAND, lot) == ()], [(), ((0, 0),)])

    def test_all_rows(self):
        rows = (
            ("set", 0, 0), ("copy", 0, 0), ("plus", 0, 0), ("less", 0, 0), ("ask", 0), ("show", 0), ("load", 0, 1, 0),
            ("load", 0, "y", 0), ("store", 0, 1, 0), ("store", 0, "y", 0), ("item", 0, 1, 0), ("item", 0, "y", 0),
            ("fill", 0, 1, 0), ("fill", 0, "y", 0), ("take", 0, 0), ("take", 0, "x"), ("alike", 0, 0, 0), ("call", 0),
            ("call", "x"), ("try", 0, 0), ("try", "x", 0), ("leap", 0), ("jump", "x"), ("goto", 0), ("if", 0, 0),
            ("return",), ("stop",), ("fail", 0))
        sizes = (3, 3, 3, 3, 2, 2, 4, 5, 4, 5, 6, 6, 6, 6, 4, 4, 4, 2, 3, 2, 3, 2, 3, 2, 3, 1, 1, 2)
        bundle = ("bundle", "", 0, (), (("x", "code", 0, False), ("y", "data", 2, False)), (), (), (
            ("body", "code", (("u", "a"),), rows), ("body", "data", (("u", "d"),), (1, 2))))
        starts = places(bundle, ())[0]
        self.assertEqual(tuple(b - a for a, b in zip(starts, starts[1:])), sizes)
        self.assertEqual(branches(bundle), tuple((0, n) for n in (17, 19, 23, 24)))
        starts = places(bundle, branches(bundle))[0]
        longer = tuple(many + (n in (17, 19, 23, 24)) for n, many in enumerate(sizes))
        self.assertEqual(tuple(b - a for a, b in zip(starts, starts[1:])), longer)
        bundle = ("bundle", "", 0, (), (("t", "table", 2, False),), (), (), (
            ("body", "code", (("u", "a"),), (("pick", 0, 2, 0), ("pick", 0, "t", 0), ("jump", 1))),
            ("body", "code", (("u", "b"),), (("stop",),)), ("body", "table", (("u", "t"),), (None, None))))
        self.assertEqual(places(bundle, ()), ((0, 6, 12, 14), (14, 15)))
        self.assertEqual(branches(bundle), ((0, 2),))

    def test_only_code_has_places(self):
        self.assertEqual(len(places(RICH, ())), 2)
        self.assertEqual(branches(bundle=RICH), ((0, 0), (0, 11), (1, 0), (1, 1)))
        empty = ("bundle", "li", None, (), (), (), (), (("body", "room", (("u", "r"),), 64),))
        self.assertEqual((branches(empty), places(empty, ()), grown(empty), waves(empty), forced(empty)), ((),) * 5)

    def test_made_up(self):
        for bundle in made_up(60, most=99):
            self.assertEqual(branches(bundle), plain_branches(bundle))
            rng = random.Random(1)
            for _ in range(6):
                long = tuple(x for x in branches(bundle) if rng.random() < 0.4)
                self.assertEqual(places(bundle, long), layout(bundle, long))
                self.assertEqual(far(bundle, long), plain_far(bundle, long))
                for x in branches(bundle):
                    self.assertEqual(distance(bundle, long, x), plain_distance(bundle, long, x))


class EdgesTest(unittest.TestCase):
    def test_forward(self):
        for many in range(28, 35):
            for row, at in ((("call", 1), 0), (("if", 0, None), None), (("goto", None), None)):
                if at is None:
                    held = cells(many)
                    row = tuple(len(held) + 1 if part is None else part for part in row)
                    bundle = program((row,) + held + (END,), wants=Y)
                else:
                    bundle = program((row,) + cells(many - 1) + (END,), (END,), wants=Y)
                self.assertEqual(distance(bundle, (), (0, 0)), many)
                self.assertEqual(far(bundle, ()), ((0, 0),) if many > 31 else ())
                self.assertEqual(grown(bundle), far(bundle, ()))

    def test_backward(self):
        for many in range(26, 34):
            for row, own in ((("goto", 0), 2), (("if", 0, 0), 3), (("call", 0), 2), (("try", 0, 0), 2)):
                bundle = program(cells(many) + (row, END), wants=Y)
                n = len(bundle[7][0][3]) - 2
                self.assertEqual(distance(bundle, (), (0, n)), -many - own)
                # Once long it is one cell further away, and held all the same.
                self.assertEqual(distance(bundle, ((0, n),), (0, n)), -many - own - 1)
                self.assertEqual(far(bundle, ()), ((0, n),) if many + own > 32 else ())
                self.assertEqual(far(bundle, ((0, n),)), ())

    def test_bodies_between(self):
        between = (cells(30) + (END,),)
        bundle = program((("call", 2), END), *between, (SHOW, ("call", 0), END), wants=Y)
        self.assertEqual(distance(bundle, (), (0, 0)), 32)
        self.assertEqual(distance(bundle, (), (2, 1)), -38)
        self.assertEqual(far(bundle=bundle, long=()), ((0, 0), (2, 1)))
        self.assertEqual(far(bundle, ((0, 0),)), ((2, 1),))
        self.assertEqual(distance(bundle, ((0, 0),), (0, 0)), 32)
        self.assertEqual(distance(bundle, ((0, 0),), (2, 1)), -39)

    def test_one_pushes_another(self):
        # The inner one is far at first; once it is long, so is the outer one.
        inner = ("call", 2)
        bundle = program((("call", 1), inner) + cells(26) + (END,), (END,) , cells(4) + (END,), wants=Y)
        self.assertEqual(distance(bundle, (), (0, 0)), 29)
        bundle = program((("call", 1), inner) + cells(28) + (END,), (END,), cells(4) + (END,), wants=Y)
        self.assertEqual(distance(bundle, (), (0, 0)), 31)
        self.assertEqual(distance(bundle, (), (0, 1)), 30)
        bundle = program((("call", 1), inner) + cells(28) + (END,), (SHOW, END), cells(4) + (END,), wants=Y)
        self.assertEqual(waves(bundle), (((0, 1),), ((0, 0),)))
        self.assertEqual(grown(bundle), ((0, 0), (0, 1)))
        self.assertEqual(forced(bundle), ((0, 1), (0, 0)))
        self.assertIs(is_forced(bundle, ((0, 0), (0, 1))), False)
        self.assertIs(is_forced(bundle=bundle, thing=((0, 1), (0, 0))), True)
        self.assertEqual(grown(bundle=bundle, long=((0, 0),)), ((0, 0), (0, 1)))

    def test_long_waves(self):
        # Each call of a body is pushed over the edge by the one behind it.
        held = []
        for k in range(12):
            held.append((("call", min(k + 2, 12)),) + (SHOW,) * 13 + (("set", 0, 0), END) if k < 11 else (END,))
        bundle = program(*held[:12], (END,))
        told = waves(bundle)
        self.assertEqual(sum(told, ()), forced(bundle))
        self.assertEqual(tuple(sorted(sum(told, ()))), grown(bundle))


class GrownTest(unittest.TestCase):
    def test_lattice(self):
        for bundle in made_up(40):
            holding = [lot for lot in lots(bundle) if plain_far(bundle, lot) == ()]
            for one, other in itertools.combinations(holding[:40], 2):
                self.assertIn(tuple(sorted(set(one) & set(other))), holding)
            self.assertEqual(grown(bundle), holding[0])
            for long in itertools.islice(lots(bundle), 60):
                above = [set(lot) for lot in holding if set(long) <= set(lot)]
                self.assertEqual(set(grown(bundle, long)), set.intersection(*above))
                self.assertEqual(far(bundle, grown(bundle, long)), ())

    def test_one_after_another(self):
        rng = random.Random(5)
        for bundle in made_up(60, 1000, most=99):
            long = []
            while plain_far(bundle, tuple(sorted(long))):
                long.append(rng.choice(plain_far(bundle, tuple(sorted(long)))))
            self.assertEqual(tuple(sorted(long)), grown(bundle))
            self.assertIs(is_forced(bundle, tuple(long)), True)

    def test_growth(self):
        rng = random.Random(6)
        for bundle in made_up(60, 2000, most=99):
            b = rng.randrange(len(bundle[7]))
            rows = bundle[7][b][3]
            if len(rows) == 40:
                continue
            n = rng.randrange(len(rows))
            move = lambda at: at + (at >= n)
            moved = tuple(
                (r[0], move(r[1])) if r[0] == "goto" else r[:2] + (move(r[2]),) if r[0] in ("if", "try") else r
                for r in rows)
            more = bundle[7][:b] + (bundle[7][b][:3] + (moved[:n] + (("copy", 0, 1),) + moved[n:],),) + bundle[7][b + 1:]
            wider = bundle[:7] + (more,)
            # What jumped to row 0 of its own body is a goto still.
            told = {(c, m + (c == b and m >= n)) for c, m in grown(bundle)}
            self.assertLessEqual(told, set(grown(wider)))

    def test_growth_by_bodies(self):
        for bundle in made_up(40, 6000, most=99):
            for b in range(len(bundle[7]) + 1):
                held = []
                for one in bundle[7]:
                    held.append(one[:3] + (tuple(
                        (r[0], r[1] + (r[1] >= b)) + r[2:] if r[0] in ("call", "try", "jump") and not by_name(r) else r
                        for r in one[3]),))
                held.insert(b, ("body", "code", (("v", "new"),), (SHOW, ("copy", 0, 1), END)))
                wider = bundle[:2] + (0 + (b == 0),) + bundle[3:7] + (tuple(held),)
                self.assertLessEqual({(c + (c >= b), n) for c, n in grown(bundle)}, set(grown(wider)))

    def test_default(self):
        for bundle in made_up(5):
            self.assertEqual(grown(bundle), grown(bundle, ()))


class WavesTest(unittest.TestCase):
    def test_waves(self):
        several = 0
        for bundle in made_up(80, 3000, most=99):
            told = waves(bundle)
            self.assertTrue(all(told))
            for at in range(len(told) + 1):
                ahead = tuple(sorted(sum(told[:at], ())))
                self.assertEqual(plain_far(bundle, ahead), told[at] if at < len(told) else ())
            together = sum(told, ())
            self.assertEqual(len(together), len(set(together)))
            self.assertEqual(tuple(sorted(together)), grown(bundle))
            several += len(told) > 1
            for ahead, wave in zip(told, told[1:]):
                for b, n in wave:
                    r = bundle[7][b][3][n]
                    aim = (b, r[-1]) if r[0] in ("goto", "if") else (r[1], 0)
                    self.assertTrue(any((b, n) < x < aim or aim <= x < (b, n) for x in ahead))
        self.assertGreater(several, 5)

    def test_forced(self):
        for bundle in made_up(60, 4000, most=99):
            told = forced(bundle)
            self.assertIs(is_forced(bundle, told), True)
            self.assertEqual(tuple(sorted(told)), grown(bundle))

    def test_is_forced(self):
        for bundle in made_up(12, 5000, most=5):
            for many in range(len(branches(bundle)) + 1):
                for order in itertools.permutations(branches(bundle), many):
                    right = plain_far(bundle, order) == () and all(
                        x in plain_far(bundle, order[:at]) for at, x in enumerate(order))
                    self.assertIs(is_forced(bundle, order), right)
                    if right:
                        self.assertEqual(tuple(sorted(order)), grown(bundle))
            for other, by_kind in near(forced(bundle)):
                right = type(other) is tuple and all(
                    type(x) is tuple and [type(k) for k in x] == [int, int] for x in other)
                right = right and len(set(other)) == len(other) and set(other) <= set(branches(bundle))
                right = right and plain_far(bundle, other) == () and all(
                    x in plain_far(bundle, other[:at]) for at, x in enumerate(other))
                self.assertIs(is_forced(bundle, other), right)
                self.assertFalse(right and by_kind)

    def test_any_value(self):
        bundle = next(made_up(1))
        for thing in WEIRD:
            self.assertIs(is_forced(bundle, thing), False)
            self.assertIs(is_forced(HAND, thing), type(thing) is tuple and len(thing) == 0)


class WidthsErrorsTest(unittest.TestCase):
    def test_bad_bundle(self):
        for thing in WEIRD + tuple(other for other, _ in near(HAND)):
            if plain.is_bundle(thing):
                continue
            for f in (branches, grown, waves, forced):
                with self.assertRaises(BadBundle):
                    f(thing)
            for f in (places, far, grown):
                with self.assertRaises(BadBundle):
                    f(thing, None)
            with self.assertRaises(BadBundle):
                distance(thing, None, None)
            with self.assertRaises(BadBundle):
                is_forced(thing, None)

    def test_bad_lot(self):
        lot = ((0, 0), (0, 11), (1, 1))
        for f in (places, far, grown):
            f(RICH, lot)
        wrong = [other for other, _ in near(lot)] + list(WEIRD) + [((0, 1),), ((0, 0), (0, 0)), ((1, 0), (0, 0))]
        for other in wrong:
            if type(other) is tuple and other in list(lots(RICH)) and all(
                    type(k) is int for x in other for k in x):
                continue
            for f in (places, far, grown):
                with self.assertRaises(BadLot):
                    f(RICH, other)
            for branch in ((0, 0), None):
                with self.assertRaises(BadLot):
                    distance(RICH, other, branch)

    def test_bad_branch(self):
        for other in WEIRD + ((0, 1), (2, 0), (0, 0, 0), (0,), [0, 0], (False, 0), (0, 0.0), (0, -1), (-2, 0), ("a", 0)):
            with self.assertRaises(BadBranch):
                distance(RICH, (), other)


if __name__ == "__main__":
    unittest.main()
