import itertools
import random
import time
import unittest

from onebase.patches import is_rifts, patch, patched, rifts
from tests.support import WEIRD, near, raised, weird_near

OLD = (1, 2, 3, 4, 5)
NEW = (3, 4, 9, 1, 2, 3)
PATCH = (("copy", 2, 2), ("cell", 9), ("copy", 0, 3))


def stands(old, cells):
    return any(tuple(old[at:at + len(cells)]) == tuple(cells) for at in range(len(old) - len(cells) + 1))


def least(old, new):
    """As few steps as can be: by trying all ways to part the new run."""
    best = [0]
    for end in range(1, len(new) + 1):
        best.append(min(best[at] + 1 for at in range(end) if end - at == 1 or stands(old, new[at:end])))
    return best[-1]


def most(old, new):
    """As many rifts as can be: by trying all."""
    best = [0] * (len(new) + 1)
    for j in range(len(new)):
        best[j] = best[j - 1] if j else 0
        for i in range(j):
            if not stands(old, new[i:j + 1]):
                best[j] = max(best[j], best[i] + 1)
    return best[len(new) - 1] if new else 0


def are_rifts(old, new, thing):
    if type(thing) is not tuple:
        return False
    ahead = 0
    for rift in thing:
        if type(rift) is not tuple or len(rift) != 2 or any(type(x) is not int for x in rift):
            return False
        i, j = rift
        if not ahead <= i < j < len(new) or stands(old, new[i:j + 1]):
            return False
        ahead = j
    return True


def is_patch(thing, many):
    if type(thing) is not tuple:
        return False
    for step in thing:
        if type(step) is not tuple or not step or type(step[0]) is not str or any(type(x) is not int for x in step[1:]):
            return False
        if step[0] == "cell":
            if len(step) != 2 or not 0 <= step[1] < 64:
                return False
        elif step[0] != "copy" or len(step) != 3 or step[1] < 0 or step[2] < 1 or step[1] + step[2] > many:
            return False
    return True


def one_run(rng, most=12, letters=3):
    return tuple(rng.randrange(letters) for _ in range(rng.randrange(most)))


class PatchTest(unittest.TestCase):
    def test_example_by_hand(self):
        self.assertEqual(patched(old=OLD, patch=PATCH), NEW)
        told = patch(old=OLD, new=NEW)
        self.assertEqual((len(told), patched(OLD, told)), (3, NEW))
        self.assertEqual(len(rifts(old=OLD, new=NEW)), 2)
        self.assertIs(is_rifts(old=OLD, new=NEW, thing=((0, 2), (2, 3))), True)

    def test_edges(self):
        for old, new, many in (
                ((), (), 0), ((), (5,), 1), (OLD, (), 0), (OLD, OLD, 1), (OLD, (5,), 1), (OLD, (6,), 1), ((0,), (0, 0, 0), 3), ((0, 0), (0, 0, 0), 2),
                ((), (1, 1, 1), 3), (OLD, OLD + OLD, 2), (OLD, (5, 1), 2), ((63, 0), (0, 63, 0), 2), (OLD, (9,) * 4, 4)):
            told = patch(old, new)
            self.assertEqual((len(told), patched(old, told)), (many, new))
            self.assertEqual(len(rifts(old, new)), max(many - 1, 0))
            self.assertEqual(patched(list(old), patch(list(old), list(new))), new)
            self.assertEqual(type(patched(list(old), told)), tuple)
        self.assertEqual((patch((), ()), rifts((), ()), patched((), ())), ((), (), ()))
        # A cell that stands in the old run may be told as such, too.
        self.assertEqual(patched(OLD, (("cell", 1), ("copy", 1, 1), ("cell", 63))), (1, 2, 63))
        # Copies that end at the last cell, and one behind it.
        self.assertEqual(patched(OLD, (("copy", 0, 5), ("copy", 4, 1))), OLD + (5,))
        for step in (("copy", 0, 6), ("copy", 4, 2), ("copy", 5, 1), ("copy", 5, 0), ("copy", 0, 0), ("copy", -1, 2), ("copy", 9, 1), ("cell", 64), ("cell", -1),
                     ("copy", 6, -1), ("copy", 0, -1), ("copy", 10 ** 30, 1), ("copy", 0, 10 ** 30), ("copy", 0), ("cell", 0, 1), ("cell",), (), ("move", 0, 1)):
            self.assertEqual(raised(patched, OLD, (step,)), ("BadPatch", {}), step)
        self.assertEqual(raised(patched, (), (("copy", 0, 1),)), ("BadPatch", {}))

    def test_all_small_runs(self):
        """As few steps, and as many rifts, as can be: by trying all."""
        for many in range(4):
            for old in itertools.product(range(2), repeat=many):
                for more in range(5):
                    for new in itertools.product(range(3), repeat=more):
                        self.check(old, new)

    def check(self, old, new):
        told, found = patch(old, new), rifts(old, new)
        self.assertTrue(is_patch(told, len(old)))
        self.assertEqual(patched(old, told), tuple(new))
        self.assertEqual(len(told), least(old, new))
        self.assertTrue(are_rifts(old, new, found))
        self.assertIs(is_rifts(old, new, found), True)
        self.assertEqual(len(found), most(old, new))
        # HEART: the fewest steps are the most rifts and one.
        self.assertEqual(len(told), len(found) + (len(new) > 0))

    def test_drawn_runs(self):
        for seed in range(1500):
            rng = random.Random(seed)
            letters = rng.choice((1, 2, 3, 64))
            old, new = one_run(rng, 16, letters), one_run(rng, 16, letters)
            if rng.random() < 0.4:
                at, end = rng.randrange(len(old) + 1), rng.randrange(len(old) + 1)
                new = old[at:] + new[:3] + old[:end]
            self.check(old, new)

    def test_no_step_gives_a_rift(self):
        """HEART: between the first and the last cell of each rift a step ends, of any patch."""
        for seed in range(400):
            rng = random.Random(seed)
            old, new = one_run(rng, 10), one_run(rng, 10)
            steps, at = [], 0
            while at < len(new):
                ends = [end for end in range(at + 1, len(new) + 1) if stands(old, new[at:end])]
                if ends and rng.random() < 0.8:
                    end = rng.choice(ends)
                    start = [k for k in range(len(old)) if old[k:k + end - at] == new[at:end]][0]
                    steps.append(("copy", start, end - at))
                else:
                    end = at + 1
                    steps.append(("cell", new[at]))
                at = end
            self.assertEqual(patched(old, tuple(steps)), new)
            ends = [sum(s[2] if s[0] == "copy" else 1 for s in steps[:k + 1]) - 1 for k in range(len(steps))]
            for i, j in rifts(old, new):
                self.assertTrue(any(i <= end < j for end in ends))


class JudgeTest(unittest.TestCase):
    def test_all_small_tuples_of_rifts(self):
        for old, new in ((OLD, NEW), ((), (1, 2, 3)), ((0, 1), (0, 1, 0)), ((1, 1), (1, 1, 1, 1))):
            pairs = list(itertools.product(range(-1, len(new) + 1), repeat=2))
            for many in range(3):
                for thing in itertools.product(pairs, repeat=many):
                    self.assertIs(is_rifts(old, new, thing), are_rifts(old, new, thing))

    def test_near_right_ones(self):
        for thing in (((0, 2), (2, 3)), ((1, 3),), rifts(OLD, NEW)):
            for other, by_kind in near(thing):
                right = is_rifts(OLD, NEW, other)
                self.assertIs(right, are_rifts(OLD, NEW, other), other)
                self.assertFalse(right and by_kind)
            for other in itertools.chain(weird_near(thing), WEIRD):
                self.assertIs(is_rifts(OLD, NEW, other), are_rifts(OLD, NEW, other))
        for thing in (PATCH, (("cell", 0),), patch(OLD, NEW)):
            for other, by_kind in near(thing):
                told = raised(patched, OLD, other)
                self.assertEqual(told[0], "told" if is_patch(other, 5) else "BadPatch", other)
                self.assertFalse(told[0] == "told" and by_kind)
            for other in itertools.chain(weird_near(thing), WEIRD):
                self.assertEqual(raised(patched, OLD, other)[0], "told" if is_patch(other, 5) else "BadPatch")

    def test_no_runs(self):
        for thing in WEIRD + ((64,), (-1,), [True], (0, 1.0), "ab", (None,), ((0,),), {0: 1}, b"ab"):
            if type(thing) in (tuple, list) and all(type(c) is int and 0 <= c < 64 for c in thing):
                continue
            self.assertEqual(raised(patched, thing, None), ("BadRun", {}))
            for f in (patch, rifts):
                self.assertEqual(raised(f, thing, ()), ("BadRun", {}))
                self.assertEqual(raised(f, (), thing), ("BadRun", {}))
            self.assertEqual(raised(is_rifts, thing, (), ()), ("BadRun", {}))
            self.assertEqual(raised(is_rifts, (), thing, ()), ("BadRun", {}))

    def test_what_is_passed_stays(self):
        old, new = [1, 2, 3], [3, 1, 2]
        told = patch(old, new)
        patched(old, told), rifts(old, new)
        self.assertEqual((old, new), ([1, 2, 3], [3, 1, 2]))


class SpeedTest(unittest.TestCase):
    def test_long_runs_end(self):
        began = time.process_time()
        rng = random.Random(1)
        for letters in (1, 2, 64):
            old = tuple(rng.randrange(letters) for _ in range(4000))
            for _ in range(15):
                new = list(old[rng.randrange(2000):]) + list(old[:2000])
                for _ in range(60):
                    new[rng.randrange(len(new))] = rng.randrange(64)
                told = patch(old, new)
                self.assertEqual(patched(old, told), tuple(new))
                self.assertIs(is_rifts(old, new, rifts(old, new)), True)
        # Runs that are nearly alike everywhere.
        old, new = (0,) * 3999 + (1,), (0,) * 2000 + (1,) + (0,) * 1999
        for _ in range(20):
            self.assertEqual(len(patch(old, new)), 2)
        old, new = ((0,) * 50 + (1,)) * 80, ((0,) * 49 + (1,)) * 80
        for _ in range(20):
            self.assertEqual(patched(old, patch(old, new)), new)
        self.assertLess(time.process_time() - began, 20)


if __name__ == "__main__":
    unittest.main()
