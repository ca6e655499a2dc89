import random
import time
import unittest

from onebase.lots import bars, lots
from onebase.naming import naming
from onebase.plainlines import needed
from onebase.taking import members
from tests import plainlots
from tests.making import loose_line, one_goal, one_line
from tests.support import archive, calls, code, item, library, made, piece, raised
from tests.test_plainlines import MAIN, P, Q, R, U

S = made("s", calls("g"), calls("main"))
LINE = (item(U), archive("one", P), archive("two", R, S))
LIB = ("library", "lz")


class LotsTest(unittest.TestCase):
    def told(self, line, goal, held, least):
        self.assertEqual((lots(line, goal), bars(line, goal)), (held, least))
        self.assertEqual((plainlots.lots(line, goal), plainlots.bars(line, goal)), (held, least))

    def test_example_by_hand(self):
        self.told(LINE, MAIN, (), ((),))
        self.assertEqual(lots(line=LINE, goal=MAIN), ())
        self.assertEqual(bars(line=LINE, goal=MAIN), ((),))

    def test_by_hand(self):
        weak = made("v", calls("h", force="weak"))
        data = made("d", piece("h", "data", (1,)))
        room = made("e", piece("k", "room", 1))
        other = made("o", piece("k", "data", (1,)))
        self.told((), LIB, ((),), ())
        self.told((), MAIN, (), ((),))
        self.told((archive("a", Q, R),), LIB, ((), ("q",), ("q", "r")), ())
        self.told((archive("a", R),), LIB, ((),), (("r",),))
        # Two strong ones not together; a strong and a weak one are let; so are rooms; two sorts are not.
        self.told((archive("a", Q, made("w", calls("h"))),), LIB, ((), ("q",), ("w",)), (("q", "w"),))
        self.told((archive("a", Q, weak),), LIB, ((), ("q",), ("q", "v"), ("v",)), ())
        self.told((archive("a", weak), archive("b", data)), LIB, ((), ("d",), ("v",)), (("d", "v"),))
        self.told((archive("a", room, other),), LIB, ((), ("e",), ("e", "o"), ("o",)), ())
        # What object items have and want counts, too.
        self.told((item(Q), archive("a", made("w", calls("h")), weak)), LIB, ((), ("v",)), (("w",),))
        self.told((item(R), archive("a", Q, weak, P)), LIB, (
            ("p", "q"), ("p", "q", "v"), ("p", "v"), ("q",), ("q", "v"), ("v",)), ())
        self.told((item(R), item(Q), item(made("w", calls("h"))), archive("a", P)), LIB, (), ((),))
        # Cards have what is wanted, but no entry; own pieces count nowhere.
        card = library("li", (), (("h", "code", 0), ("main", "code", 0)))
        self.told((item(R), archive("a", Q), card), LIB, ((), ("q",)), ())
        self.told((archive("a", U, P), card), MAIN, (), ((),))
        own = made("w", calls("b", "h"), code("h", reach="own"))
        self.told((archive("a", own, Q),), LIB, ((), ("q",), ("q", "w"), ("w",)), ())
        # A spare is not missed; what one wants and has itself is there with it.
        self.told((archive("a", made("w", calls("g", "h"), spares=("h",)), made("x", calls("i", "i"))),), LIB, ((), ("w",), ("w", "x"), ("x",)), ())
        # Rounds; and all three errors at once.
        self.told((("round", (archive("a", U), archive("b"), archive("c", P, R))), archive("d", Q)), MAIN, (("p", "q", "r", "u"),), ())

    def test_drawn_lines(self):
        seen = {}
        for seed in range(500):
            rng = random.Random(seed)
            line, goal = loose_line(rng, 5, rng.choice((0, 0.15, 0.3)), 2)
            self.told(line, goal, plainlots.lots(line, goal), plainlots.bars(line, goal))
            for what, many in (("lots", len(lots(line, goal))), ("bars", len(bars(line, goal)))):
                seen[what, min(many, 3)] = seen.get((what, min(many, 3)), 0) + 1
        self.assertEqual(len(seen), 8)
        self.assertGreater(min(seen.values()), 15, seen)

    def test_lines_of_all_kinds(self):
        many = 0
        for seed in range(200):
            rng = random.Random(seed)
            line, goal = one_line(rng, rng.choice((0.0, 0.2)), most=5), one_goal(rng)
            told = raised(lots, line, goal)
            if told[0] == "told":
                self.told(line, goal, plainlots.lots(line, goal), plainlots.bars(line, goal))
                many += len(told[1])
        self.assertGreater(many, 100)

    def test_members_hold(self):
        """FACT: without one of the three errors the members that come from archives hold."""
        many = 0
        for seed in range(400):
            rng = random.Random(seed)
            line, goal = loose_line(rng, 6, rng.choice((0, 0.05)))
            if raised(naming, line, goal)[0] not in ("TwoStrong", "TwoSorts", "Missing"):
                names = [o[1] for o in members(line, goal) if o in plainlots.movable(line)]
                self.assertIn(tuple(sorted(names)), lots(line, goal))
                many += 1
            told = raised(needed, line, goal)
            if told[0] == "told":
                least = tuple(x for x in told[1] if x in plainlots.names_of(plainlots.movable(line)))
                held = lots(line, goal)
                self.assertIn(least, held)
                self.assertTrue(all(set(least) <= set(lot) for lot in held))
        self.assertGreater(many, 100)

    def test_eight_and_nine(self):
        units = [made("u" + chr(97 + k), calls("n" + chr(97 + k))) for k in range(9)]
        eight = (archive("a", *units[:4]), ("round", (archive("b"), archive("c", *units[4:8]))))
        self.assertEqual(len(lots(eight, LIB)), 256)
        self.assertEqual(bars(eight, LIB), ())
        # Those of object items do not count.
        self.assertEqual(len(lots(eight + (item(units[8]),), LIB)), 256)
        for f in (lots, bars):
            self.assertEqual(raised(f, eight + (archive("d", units[8]),), LIB), ("TooMany", {"most": 8}))
        double = [made("u" + chr(97 + k), calls("h")) for k in range(8)]
        self.assertEqual(len(lots((archive("a", *double),), ("program", "h"))), 8)
        self.assertEqual(len(bars((archive("a", *double),), ("program", "h"))), 28)
        # All but one of them are wanted by an object.
        wants = made("w", calls("x", *["n" + chr(97 + k) for k in range(7)]))
        self.assertEqual(len(lots((item(wants),) + eight, LIB)), 2)

    def test_errors_in_order(self):
        nine = (archive("a", *[made("u" + chr(97 + k), calls("n" + chr(97 + k))) for k in range(9)]),)
        for f in (lots, bars):
            self.assertEqual(raised(f, list(nine), None), ("BadLine", {}))
            self.assertEqual(raised(f, nine + nine, None), ("BadLine", {}))
            self.assertEqual(raised(f, nine + (library("li", ("lo",)),), ("library", "li")), ("BadGoal", {}))
            self.assertEqual(raised(f, nine + (library("li", ("lo",)),), LIB), ("NoLibrary", {"name": "lo"}))
            self.assertEqual(raised(f, nine, LIB), ("TooMany", {"most": 8}))

    def test_many_calls_end(self):
        began = time.process_time()
        drawn = [loose_line(random.Random(seed), 8, 0.1, 2) for seed in range(600)]
        for line, goal in drawn:
            lots(line, goal)
            bars(line, goal)
        self.assertLess(time.process_time() - began, 20)


if __name__ == "__main__":
    unittest.main()
