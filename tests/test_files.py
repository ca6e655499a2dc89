import random
import unittest

from onebase.files import file_of, read_file, tree_cells, tree_of
from onebase.images import linked
from onebase.objects import assembled
from tests import plain, plainimage, worlds
from tests.making import one_unit
from tests.support import WEIRD, archive, at_path, code, made, near, paths, raised, with_part
from tests.test_readback import IMAGE, SMALL

LETTERS = "abcdefghijklmnopqrstuvwxyz"


def is_tree(thing, deep=0):
    if thing is None or type(thing) is bool:
        return True
    if type(thing) is int:
        return 0 <= thing <= 32767
    if type(thing) is str:
        return len(thing) <= 8 and all(c in LETTERS for c in thing)
    return type(thing) is tuple and deep < 12 and all(is_tree(part, deep + 1) for part in thing)


def cells_of(tree):
    if type(tree) is tuple:
        return [27] + [c for part in tree for c in cells_of(part)] + [28]
    if tree is None or type(tree) is bool or tree == "":
        return [{None: 29, False: 30, True: 31, "": 32}[tree]]
    if type(tree) is str:
        cells = [ord(c) - 96 for c in tree]
        return cells[:-1] + [cells[-1] + 32]
    digits = [tree % 32]
    while tree > 31:
        tree //= 32
        digits.insert(0, tree % 32 + 32)
    return [59] + digits


def one_tree(rng, deep=4):
    kind = rng.randrange(9)
    if kind < 4 and deep > 0:
        return tuple(one_tree(rng, deep - 1) for _ in range(rng.randrange(4)))
    return rng.choice((
        None, True, False, "", rng.randrange(32), rng.randrange(1024), rng.randrange(32768), 31, 32, 1023, 1024, 32767,
        "".join(rng.choice(LETTERS) for _ in range(rng.randrange(1, 9)))))


def nested(deep, inner=None):
    tree = () if inner is None else inner
    for _ in range(deep - (1 if inner is None else 0)):
        tree = (tree,)
    return tree


def begins_well(cells):
    """Whether some tree's cells begin with these: by trying out how to go on."""
    if not cells:
        return True
    for rest in ENDS:
        if raised(tree_of, tuple(cells) + rest)[0] == "told":
            return True
    return False


# Whoever has begun a word or a number, then tuples, can end so.
ENDS = [more + (28,) * many for many in range(13) for more in ((), (33,), (0,), (29,), (28,))]


class TreeTest(unittest.TestCase):
    def test_example_by_hand(self):
        self.assertEqual(tree_cells(("a", 37)), (27, 33, 59, 33, 5, 28))
        self.assertEqual(tree_of((27, 33, 59, 33, 5, 28)), ("a", 37))

    def test_edges(self):
        for tree, cells in (
                (None, (29,)), (False, (30,)), (True, (31,)), ("", (32,)), ((), (27, 28)), (0, (59, 0)), (31, (59, 31)),
                (32, (59, 33, 0)), (1023, (59, 63, 31)), (1024, (59, 33, 32, 0)), (32767, (59, 63, 63, 31)), ("z", (58,)),
                ("ab", (1, 34)), ("abcdefgh", (1, 2, 3, 4, 5, 6, 7, 40)), ("call", (3, 1, 12, 44)), ((((),),), (27,) * 3 + (28,) * 3)):
            self.assertEqual(tree_cells(tree), cells)
            for held in (cells, list(cells)):
                told = tree_of(held)
                self.assertEqual((told, type(told)), (tree, type(tree)))
        self.assertEqual(tree_cells(tree=nested(12)), (27,) * 12 + (28,) * 12)
        self.assertEqual(tree_of(cells=(27,) * 12 + (28,) * 12), nested(12))

    def test_what_is_no_tree(self):
        for thing in WEIRD + (-1, 32768, "abcdefghi", "A", "a b", "\u00e4", [], (1, [2]), nested(13), nested(12, 0) + ([],), 1.0,
                              (None, (b"a",)), nested(13, None)):
            if not is_tree(thing):
                self.assertEqual(raised(tree_cells, thing), ("BadTree", {}))
        self.assertEqual(len(tree_cells(nested(12, 7))), 26)
        self.assertEqual(raised(tree_cells, nested(13, 7)), ("BadTree", {}))

    def test_drawn_trees(self):
        seen = {}
        for seed in range(2000):
            tree = one_tree(random.Random(seed))
            cells = tree_cells(tree)
            self.assertEqual(list(cells), cells_of(tree))
            told = tree_of(cells)
            self.assertEqual(repr(told), repr(tree))
            # Each tree has one row of cells, and none is the beginning of another.
            self.assertEqual(seen.setdefault(cells, repr(tree)), repr(tree))
            for at in range(len(cells)):
                self.assertEqual(raised(tree_of, cells[:at]), ("BadFile", {"at": at}))
            for more in (0, 27, 28, 29, 33, 63):
                self.assertEqual(raised(tree_of, cells + (more,)), ("BadFile", {"at": len(cells)}))

    def test_near_trees(self):
        for tree in ((None, (True, "ab"), 40, ""), ("abc", ((), 1024), False)):
            for other, _ in near(tree):
                told = raised(tree_cells, other)
                self.assertEqual(told, ("told", tuple(cells_of(other))) if is_tree(other) else ("BadTree", {}))


class BadFileTest(unittest.TestCase):
    def test_by_hand(self):
        for cells, at in (
                ((), 0), ((0,), 0), ((28,), 0), ((60,), 0), ((63,), 0), ((59,), 1), ((59, 32), 1), ((59, 33), 2), ((59, 33, 32), 3),
                ((59, 33, 32, 32), 3), ((59, 63, 63, 63), 3), ((1,), 1), ((1, 27), 1), ((1, 29), 1), ((1, 59), 1), ((1, 0), 1),
                ((1, 28), 1), ((1, 32), 1), ((1,) * 8, 7), ((1,) * 7, 7), ((1,) * 7 + (33,), None), ((27,), 1), ((27, 29), 2),
                ((27, 60), 1), ((27, 28, 28), 2), ((29, 29), 1), ((27,) * 13, 12), ((27,) * 12, 12), ((27,) * 12 + (28,) * 12, None),
                ((27,) * 12 + (28, 27, 28) + (28,) * 11, None), ((27, 59, 28), None), ((27, 59, 28, 28), None)):
            told = raised(tree_of, cells)
            if at is None:
                self.assertNotEqual(told, ("BadFile", {"at": 0}))
            else:
                self.assertEqual(told, ("BadFile", {"at": at}), cells)
        self.assertEqual(raised(tree_of, (27, 59, 28)), ("BadFile", {"at": 3}))
        self.assertEqual(raised(tree_of, (27, 59, 28, 28)), ("told", (28,)))

    def test_at_is_exact(self):
        """Of drawn cells: with those ahead of at some tree begins, with the one there none does."""
        seen = 0
        for seed in range(3000):
            rng = random.Random(seed)
            cells = list(tree_cells(one_tree(rng)))
            for _ in range(rng.randrange(1, 3)):
                cells[rng.randrange(len(cells))] = rng.choice((0, 1, 27, 28, 29, 32, 33, 58, 59, 60, 63, rng.randrange(64)))
            told = raised(tree_of, cells)
            if told[0] == "told":
                self.assertEqual(list(tree_cells(told[1])), cells)
                continue
            at = told[1]["at"]
            self.assertTrue(begins_well(cells[:at]), cells)
            if at < len(cells):
                self.assertFalse(begins_well(cells[:at + 1]), cells)
            seen += 1
        self.assertGreater(seen, 1000)

    def test_no_cells(self):
        for thing in WEIRD + ((64,), [-1], (True,), (27, 28.0), "ab", (None,), {27: 28}):
            if not (type(thing) in (tuple, list) and all(type(c) is int and 0 <= c <= 63 for c in thing)):
                for f in (tree_of, read_file):
                    self.assertEqual(raised(f, thing), ("BadCells", {}))


class ThingsTest(unittest.TestCase):
    def is_thing(self, thing):
        if plain.is_object(thing) or plainimage.is_image(thing):
            return True
        return (type(thing) is tuple and len(thing) == 3 and type(thing[0]) is str and thing[0] == "archive"
                and plain.is_name(thing[1]) and type(thing[2]) is tuple and all(plain.is_object(o) for o in thing[2]))

    def test_things_and_back(self):
        unit = made("u", code("f", ("call", "g"), ("return",)), spares=("g",))
        unsound = made("u", code("f", ("load", 0, "g", 0), ("return",)), code("g", reach="own"))
        for thing in (unit, unsound, archive("a"), archive("a", unit, unit), archive("a", unit, unsound), IMAGE, SMALL):
            cells = file_of(thing)
            self.assertEqual(cells, tree_cells(thing))
            self.assertEqual(list(cells), cells_of(thing))
            self.assertEqual(read_file(list(cells)), thing)
            self.assertEqual(read_file(cells=file_of(thing=thing)), thing)
            for at in (0, 1, len(cells) // 2, len(cells) - 1):
                self.assertEqual(raised(read_file, cells[:at]), ("BadFile", {"at": at}))
            self.assertEqual(raised(read_file, cells + (29,)), ("BadFile", {"at": len(cells)}))

    def test_drawn_things(self):
        for seed in range(80):
            rng = random.Random(seed)
            made_up = [assembled(one_unit(rng, x)) for x in ("ua", "ub")]
            for thing in made_up + [archive("ar", *made_up)]:
                self.assertEqual(read_file(file_of(thing)), thing)
            for _, goal, line in worlds.one_world(rng):
                self.assertEqual(read_file(file_of(linked(line, goal))), linked(line, goal))
            program, libraries = worlds.one_scope(rng)
            for image in (program,) + libraries:
                self.assertEqual(read_file(file_of(image)), image)

    def test_what_is_none(self):
        for thing in WEIRD + (("archive", "call", ()), ("archive", "a", []), ("archive", "a", (None,)), ("archive", "a"), ("round", ())):
            self.assertEqual(raised(file_of, thing), ("BadThing", {}))
            if is_tree(thing):
                self.assertEqual(raised(read_file, tree_cells(thing)), ("BadThing", {}))

    def test_near_things(self):
        unit = made("u", code("f", ("call", "f"), ("goto", 0)))
        for thing in (archive("a", unit), SMALL):
            others = [other for other, _ in near(thing)]
            for other in others[::(1 if thing != SMALL else 5)]:
                told = self.is_thing(other)
                self.assertEqual(raised(file_of, other)[0], "told" if told else "BadThing")
                if is_tree(other):
                    cells = tree_cells(other)
                    self.assertEqual(raised(read_file, cells), ("told", other) if told else ("BadThing", {}))

    def test_true_is_no_number(self):
        """A True in the place of a 1 is another file, of no thing."""
        for path in paths(SMALL):
            if type(at_path(SMALL, path)) is int and at_path(SMALL, path) in (0, 1):
                other = with_part(SMALL, path, bool(at_path(SMALL, path)))
                self.assertNotEqual(tree_cells(other), tree_cells(SMALL))
                self.assertEqual(raised(file_of, other), ("BadThing", {}))


if __name__ == "__main__":
    unittest.main()
