import random
import time
import unittest

from onebase.rooms import room
from onebase.widths import branches, far, grown
from tests import plain
from tests.making import full_bundle, one_bundle
from tests.support import WEIRD, near, raised
from tests.test_bundles import HAND
from tests.test_widths import END, SHOW, Y, cells, program


def rows_of(bundle, many):
    """Rows of so many cells, one at least, that are no branches; the last one may end code."""
    if many == 2:
        return (("stop",), ("stop",))
    names = [x for x, sort, _, _ in bundle[4] if sort == "data"]
    return tuple(("item", 0, names[0], 0) if r[0] == "item" else r for r in cells(many - 1)) + (("stop",),)


def widened(bundle, b, n, many):
    """The bundle with so many cells more ahead of the row, and how branches move along."""
    if many == 0:
        return bundle, lambda branch: branch
    parts = bundle[7]
    if n == 0:
        moved = lambda x: x + (x >= b) if type(x) is int else x
        held = []
        for part in parts:
            rows = part[3]
            if part[1] == "table":
                rows = tuple(x if x is None else moved(x) for x in rows)
            elif part[1] == "code":
                rows = tuple(tuple(moved(x) if at == lead_at(r) else x for at, x in enumerate(r)) for r in rows)
            held.append(part[:3] + (rows,))
        held.insert(b, ("body", "code", (("zz", "zz"),), rows_of(bundle, many)))
        shown = tuple((x, moved(k)) for x, k in bundle[6])
        entry = None if bundle[2] is None else moved(bundle[2])
        return bundle[:2] + (entry,) + bundle[3:5] + (tuple(map(moved, bundle[5])), shown, tuple(held)), lambda branch: (moved(branch[0]), branch[1])
    more = rows_of(bundle, many)
    moved = lambda m: m + len(more) if m >= n else m
    rows = tuple(("goto", moved(r[1])) if r[0] == "goto" else r[:2] + (moved(r[2]),) if r[0] in ("if", "try") else r for r in parts[b][3])
    part = parts[b][:3] + (rows[:n] + more + rows[n:],)
    return bundle[:7] + (parts[:b] + (part,) + parts[b + 1:],), lambda branch: (branch[0], moved(branch[1]) if branch[0] == b else branch[1])


def lead_at(r):
    return {"call": 1, "try": 1, "jump": 1, "load": 2, "store": 2, "item": 2, "fill": 2, "take": 2, "pick": 2}.get(r[0])


class RoomTest(unittest.TestCase):
    def test_example_by_hand(self):
        self.assertEqual(room(HAND, 1, 0), (28, (0, 0)))
        self.assertEqual(room(bundle=HAND, b=1, n=0), (28, (0, 0)))
        self.assertIsNone(room(HAND, 1, 1))
        self.assertIsNone(room(HAND, 0, 0))
        self.assertEqual([room(HAND, 0, n) for n in (1, 2)], [(28, (0, 0))] * 2)

    def test_both_ways(self):
        # A goto back to row 0 over two shows: distance -6 from its end at 6.
        bundle = program((SHOW, SHOW, ("goto", 0)))
        self.assertEqual([room(bundle, 0, n) for n in range(3)], [None, (26, (0, 2)), (26, (0, 2))])
        bundle = program((SHOW, SHOW, ("goto", 1)))
        self.assertEqual([room(bundle, 0, n) for n in range(3)], [None, None, (28, (0, 2))])
        # To its own row, and to the row behind it, nothing comes in between; but ahead of that row it does.
        bundle = program((SHOW, ("goto", 1), ("if", 0, 3), END))
        self.assertEqual([room(bundle, 0, n) for n in range(4)], [None, None, None, (31, (0, 2))])
        # Between bodies, backward, forward, and by calls of one body and another; the first of two that are as near.
        bundle = program((("call", 1), END), (("call", 0), ("call", 0), END))
        self.assertEqual(room(bundle, 1, 0), (25, (1, 1)))
        self.assertEqual(room(bundle, 0, 1), (25, (1, 1)))
        self.assertEqual(room(bundle, 1, 1), (25, (1, 1)))
        self.assertEqual(room(bundle, 1, 2), None)
        bundle = program((("call", 1), END), (("if", 0, 1), ("call", 0), END))
        self.assertEqual(room(bundle, 1, 0), (24, (1, 1)))
        bundle = program((("try", 1, 1), END), (("return",),), (("if", 2, 1), ("goto", 1)))
        self.assertEqual(room(bundle, 2, 1), (31, (2, 0)))

    def test_ties(self):
        """Of several that are far at once the first one, as pairs."""
        bundle = program((("call", 1), ("call", 2), END), (SHOW, END), (SHOW, END))
        # Distances 3 and 4: to 1 is nearer; ahead of body 2 only the second one is over.
        self.assertEqual([room(bundle, b, 0) for b in range(3)], [None, (27, (0, 1)), (27, (0, 1))])
        bundle = program((("call", 1), SHOW, END), (("goto", 0),), (SHOW, ("call", 0), END))
        self.assertEqual(room(bundle, 1, 0), (21, (2, 1)))
        bundle = program((("call", 1), SHOW, END), (END,))
        self.assertEqual(room(bundle, 0, 1), (28, (0, 0)))
        bundle = program((("if", 0, 2), SHOW, ("if", 0, 0), END))
        self.assertEqual(room(bundle, 0, 1), (24, (0, 2)))
        bundle = program((("call", 1), ("call", 1), END), (END,))
        self.assertEqual(room(bundle, 1, 0), (28, (0, 0)))
        bundle = program((("if", 0, 3), ("call", 1), END, END), (END,))
        self.assertEqual([room(bundle, 0, n) for n in (1, 2, 3)], [(28, (0, 0))] * 3)

    def test_at_the_edge(self):
        """No room at all at 31 and -32; long ones count nothing."""
        for more, told in ((30, (0, (0, 0))), (29, (1, (0, 0))), (31, None)):
            bundle = program((("call", 1),) + cells(more) + (END,), (END,), wants=Y)
            self.assertEqual(room(bundle, 1, 0), told)
            self.assertEqual(len(grown(bundle)), 0 if told else 1)
        for more, told in ((30, (0, (0, 5))), (31, None)):
            held = cells(more)
            bundle = program(held + (("goto", 0),), wants=Y)
            self.assertEqual(room(bundle, 0, 1), told and (0, (0, len(held))))

    def test_foretold(self):
        """HEART: with so many cells or less grown is the same lot; with one more it has all of it and the told branch."""
        seen = {"none": 0, "some": 0, "long": 0}
        for seed in range(150):
            rng = random.Random(seed)
            bundle = one_bundle(rng, 4, 24, rng.choice((2.5, 6))) if seed % 3 else full_bundle(rng, 3, 6)
            held = grown(bundle)
            codes = [part[3] for part in bundle[7] if part[1] == "code"]
            for _ in range(6):
                b = rng.randrange(len(codes))
                n = rng.choice((0, rng.randrange(len(codes[b]))))
                told = room(bundle, b, n)
                seen["none" if told is None else "some"] += 1
                seen["long"] += len(held) > 0
                for many in range(0, 62, 7) if told is None else sorted({0, max(told[0] - 1, 0), told[0]}):
                    wider, moved = widened(bundle, b, n, many)
                    self.assertTrue(plain.is_bundle(wider))
                    self.assertEqual(grown(wider), tuple(sorted(map(moved, held))))
                if told is not None:
                    many, branch = told
                    wider, moved = widened(bundle, b, n, many + 1)
                    self.assertLessEqual(set(map(moved, held)) | {moved(branch)}, set(grown(wider)))
                    self.assertNotIn(branch, held)
                    # The first one of those that are far.
                    wide = far(wider, tuple(sorted(map(moved, held))))
                    self.assertEqual([x for x in branches(bundle) if moved(x) in wide][0], branch)
        self.assertGreater(min(seen.values()), 100, seen)

    def test_every_place(self):
        for seed in range(12):
            rng = random.Random(seed)
            bundle = one_bundle(rng, 3, 10, 3)
            held = grown(bundle)
            for b, part in enumerate(bundle[7]):
                for n in range(len(part[3])):
                    told = room(bundle, b, n)
                    for many in range(1, 64, 3 if told is None else 1):
                        wider, moved = widened(bundle, b, n, many)
                        same = grown(wider) == tuple(sorted(map(moved, held)))
                        self.assertEqual(same, told is None or many <= told[0])
                        if told is not None and many > told[0]:
                            break

    def test_wrong_inputs(self):
        for thing in WEIRD:
            self.assertEqual(raised(room, thing, None, None), ("BadBundle", {}))
            for b, n in ((thing, 0), (0, thing), (thing, thing), (1, thing)):
                ints = all(type(k) is int for k in (b, n)) and 0 <= b < 2 and 0 <= n < (3, 2)[b]
                self.assertEqual(raised(room, HAND, b, n)[0], "told" if ints else "BadRow")
        for b, n in ((2, 0), (-1, 0), (0, -1), (0, 3), (1, 2), (3, 0), (False, 0), (0, 1.0)):
            self.assertEqual(raised(room, HAND, b, n), ("BadRow", {}))
        for other, _ in near(HAND):
            self.assertEqual(raised(room, other, None, None), ("BadRow" if plain.is_bundle(other) else "BadBundle", {}))

    def test_many_calls_end(self):
        began = time.process_time()
        for seed in range(60):
            rng = random.Random(seed)
            bundle = one_bundle(rng, 4, 40, 5)
            for b, part in enumerate(bundle[7]):
                for n in range(len(part[3])):
                    room(bundle, b, n)
        self.assertLess(time.process_time() - began, 20)


if __name__ == "__main__":
    unittest.main()
