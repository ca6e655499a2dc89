import random
import unittest

from onebase.apart import taken_apart
from onebase.images import image_of, linked
from onebase.objects import assembled
from onebase.readback import read_back
from onebase.units import is_unit, unit_faults
from tests.making import full_bundle, one_goal, whole_line
from tests.support import WEIRD, calls, code, item, library, made, piece, raised
from tests.test_bundles import body
from tests.test_readback import EMPTY, IMAGE, LIBRARY, SMALL

MAIN = ("program", "main")
LIB = ("library", "lz")


class ApartTest(unittest.TestCase):
    def check(self, line, goal):
        """Taken apart and linked again the image is the same in all but its book and its wants."""
        image = linked(line, goal)
        unit, again = taken_apart(image)
        self.assertTrue(is_unit(unit))
        self.assertEqual(unit_faults(unit), ())
        cards = {i[1][1]: i for i in line if i[0] == "library"}
        told = linked(tuple(cards[x] for x in image[3]) + (item(assembled(unit)),), again)
        self.assertEqual(told[:4] + told[5:12], image[:4] + image[5:12])
        self.check_unit(unit, again, image)
        return unit

    def check_unit(self, unit, goal, image):
        """A piece for each body, in order, by its exports and the entry, and what may stand behind."""
        _, _, entry, _, _, starts, exports, parts = read_back(image)
        self.assertEqual(goal[0], "library" if image[1] else "program")
        names = {}
        for x, b in exports:
            names.setdefault(b, []).append(x)
        for b, part in enumerate(parts):
            _, x, sort, reach, force, _ = unit[4][b]
            self.assertEqual((sort, force), (part[1], "strong"))
            self.assertEqual(reach, "open" if b in names else "hidden" if b == entry else "own")
            if b in names:
                self.assertEqual(x, min(names[b]))
            if b == entry:
                self.assertEqual(goal, ("program", x))
        for p in unit[4][len(parts):]:
            self.assertIn(p[3], ("own", "open"))
        self.assertLessEqual(len(unit[4]), max(1, len(parts) + len(exports) + len(starts) + 2))

    def test_by_hand(self):
        self.assertEqual(taken_apart(image=IMAGE)[1][0], "program")
        unit, goal = taken_apart(IMAGE)
        main, get, pair = [p[1] for p in unit[4]]
        self.assertEqual(goal, ("program", main))
        self.assertEqual(unit[4], (
            code(main, ("call", get), ("show", 0), ("return",), reach="hidden"),
            code(get, ("load", 0, pair, 1), ("return",), reach="own"), piece(pair, "const", (5, 7), "own")))
        unit, goal = taken_apart(EMPTY)
        self.assertEqual(goal, ("library", "li"))
        self.assertEqual([p[2:4] for p in unit[4]], [("room", "own")])

    def test_starts_have_copies_where_they_must(self):
        one = made("a", code("main", ("take", 0, "s"), ("leap", 0), ("return",)),
                   code("s", ("show", 1), ("return",), reach="own"), code("z", ("show", 1), ("return",), reach="own"),
                   starts=("z", "z"))
        self.check((item(one),), MAIN)
        # A start that is as the entry, one as an export, one alone.
        for goal in (MAIN, LIB):
            two = made("a", code("main", ("show", 1), ("return",)), code("s", ("show", 1), ("return",), reach="own"),
                       code("t", ("show", 2), ("return",), reach="own"), starts=("t", "s", "t"))
            unit = self.check((item(two),), goal)
            self.assertEqual(len(unit[3]), 3)
            self.assertEqual(unit[3][0], unit[3][2])

    def test_libraries_lead_near_to_what_is_alike(self):
        a = made("a", calls("f", "o", "g"), code("g", ("show", 1), ("return",)),
                 code("o", ("show", 1), ("return",), reach="own"), piece("k", "const", (1, 2)),
                 piece("c", "const", (1, 2), "own"), piece("d", "const", (1, 2)),
                 code("h", ("load", 0, "c", 1), ("load", 0, "k", 0), ("load", 0, "d", 0), ("call", "f"), ("return",)))
        self.check((item(a),), LIB)
        wants = library("lo", (), (("x", "code", 0), ("y", "data", 3)), (("f", "code", 0, True), ("main", "code", 0, False)))
        b = made("b", calls("main", "f", "x", "s", "main"), calls("f", "x"), calls("g", "x"), spares=("s",))
        self.check((wants, item(b)), MAIN)

    def test_made_up(self):
        kinds = {"starts": 0, "exports": 0, "slots": 0, "copies": 0}
        for seed in range(1200):
            rng = random.Random(seed)
            goal = one_goal(rng)
            line = whole_line(rng, goal)
            told = raised(linked, line, goal)
            if told[0] == "told":
                unit = self.check(line, goal)
                kinds["starts"] += len(told[1][5]) > 0
                kinds["exports"] += len(told[1][6]) > 0
                kinds["slots"] += len(told[1][7]) > 0
                kinds["copies"] += len(unit[4]) > len(told[1][12])
        self.assertGreater(min(kinds.values()), 50, kinds)

    def test_any_image_gives_a_unit(self):
        for seed in range(300):
            image = image_of(full_bundle(random.Random(seed), library=seed % 2 == 0))
            told, made_ = raised(taken_apart, image)
            if told == "told":
                self.assertTrue(is_unit(made_[0]), made_)
            else:
                self.assertEqual(made_, {"most": 24})
        self.assertTrue(is_unit(taken_apart(LIBRARY)[0]))
        self.assertTrue(is_unit(taken_apart(SMALL)[0]))

    def test_too_many(self):
        def image(many, exports):
            names = ["p" + chr(97 + k) for k in range(many)]
            shown = tuple((x, k) for k, x in enumerate(names[:exports]))
            return image_of(("bundle", "li", None, (), (), (), shown, tuple(
                body("code", (("show", k % 4), ("set", 0, k), ("stop",)), x) for k, x in enumerate(names))))

        self.assertEqual(len(taken_apart(image(24, 0))[0][4]), 24)
        self.assertEqual(len(taken_apart(image(24, 24))[0][4]), 24)
        self.assertEqual(raised(taken_apart, image(25, 0)), ("TooMany", {"most": 24}))

    def test_errors(self):
        for thing in WEIRD + (IMAGE[:12],):
            self.assertEqual(raised(taken_apart, thing), ("BadImage", {}))
        self.assertEqual(raised(taken_apart, IMAGE[:10] + ((63,) * 12,) + IMAGE[11:]), ("NotLinked", {}))


if __name__ == "__main__":
    unittest.main()
