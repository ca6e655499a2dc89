import itertools
import random
import time
import unittest

from onebase.lotpapers import is_lot_with, lot_with
from onebase.lots import bars, lots
from tests import plainlots
from tests.making import loose_line
from tests.support import WEIRD, archive, calls, code, item, library, made, near, piece, raised, weird_near
from tests.test_lots import LIB, LINE, S
from tests.test_plainlines import MAIN, P, Q, R, U

PAPER = ((("s",), ("two", "main", "u", "s")), (("r",), ("wants", "h", "r", ())), (("p",), ("wants", "g", "p", (1, 0))),
         ((), ("wants", "f", "u", (2,))))


class LotWithTest(unittest.TestCase):
    def test_example_by_hand(self):
        self.assertIs(is_lot_with(line=LINE, goal=MAIN, lot=(), thing=("bar", PAPER)), True)
        for lot in plainlots.lots_of(("p", "r", "s")):
            told = lot_with(line=LINE, goal=MAIN, lot=lot)
            self.assertEqual(told[0], "bar")
            self.assertTrue(plainlots.is_lot_with(LINE, MAIN, lot, told))
            self.assertIs(is_lot_with(LINE, MAIN, lot, ("bar", PAPER)), True)
        # The first steps are papers of their own lots.
        for many, lot in ((1, ("s",)), (2, ("r",)), (3, ("p",))):
            self.assertIs(is_lot_with(LINE, MAIN, lot, ("bar", PAPER[:many])), True)
            self.assertIs(is_lot_with(LINE, MAIN, (), ("bar", PAPER[:many])), False)
        self.assertIs(is_lot_with(LINE, MAIN, (), ("bar", ())), False)

    def test_lots_that_hold(self):
        line = (item(R), archive("a", Q, P), archive("b", made("v", calls("h", force="weak"))))
        self.assertEqual(lots(line, LIB), (("p", "q"), ("p", "q", "v"), ("p", "v"), ("q",), ("q", "v"), ("v",)))
        for lot, right in (((), 6), (("p",), 3), (("q",), 4), (("p", "v"), 2), (("p", "q", "v"), 1)):
            self.assertEqual(lot_with(line, LIB, lot)[0], "lot")
            self.assertEqual(sum(is_lot_with(line, LIB, lot, ("lot", other)) for other in plainlots.lots_of(("p", "q", "v"))), right)

    def test_just_one_of_the_two(self):
        """HEART: a lot can be made one that holds exactly if no lot that has a paper lies in it."""
        seen = {"lot": 0, "bar": 0}
        steps = 0
        for seed in range(250):
            rng = random.Random(seed)
            line, goal = loose_line(rng, rng.choice((4, 5, 6)), rng.choice((0, 0.15, 0.3)), 2)
            held, least = lots(line, goal), bars(line, goal)
            for lot in plainlots.lots_of(plainlots.names_of(plainlots.movable(line))):
                told = lot_with(line, goal, lot)
                self.assertEqual(told[0] == "lot", any(set(lot) <= set(other) for other in held))
                self.assertEqual(told[0] == "bar", any(set(other) <= set(lot) for other in least))
                self.assertTrue(plainlots.is_lot_with(line, goal, lot, told), told)
                self.assertIs(is_lot_with(line, goal, lot, told), True)
                seen[told[0]] += 1
                steps = max(steps, len(told[1]) if told[0] == "bar" else 0)
        self.assertGreater(min(seen.values()), 300, seen)
        self.assertGreater(steps, 5)

    def test_eight_that_hinder_one_another(self):
        """Each of eight is wanted, and each two of them are not to be had together; and nine."""
        units = [made("u" + chr(97 + k), calls("h", *["n" + chr(97 + j) for j in range(8) if j != k]), calls("n" + chr(97 + k))) for k in range(9)]
        line = (archive("a", *units[:5]), archive("b", *units[5:8]))
        self.assertEqual(bars(line, ("program", "h")), ((),))
        told = lot_with(line, ("program", "h"), ())
        self.assertTrue(plainlots.is_lot_with(line, ("program", "h"), (), told))
        # Nine: BadLot ahead of TooMany.
        line += (archive("c", units[8]),)
        for f, more in ((lot_with, ()), (is_lot_with, (None,))):
            self.assertEqual(raised(f, line, ("program", "h"), (), *more), ("TooMany", {"most": 8}))
            self.assertEqual(raised(f, line, ("program", "h"), ("zz",), *more), ("BadLot", {}))
            self.assertEqual(raised(f, line, None, ("zz",), *more), ("BadGoal", {}))
            self.assertEqual(raised(f, line + line, None, ("zz",), *more), ("BadLine", {}))
            self.assertEqual(raised(f, line + (library("li", ("lo",)),), LIB, ("zz",), *more), ("NoLibrary", {"name": "lo"}))

    def test_no_lots(self):
        for f, more in ((lot_with, ()), (is_lot_with, (None,))):
            for thing in WEIRD + (("u",), ("p", "p"), ("r", "p"), ["p"], ("p", None), ("p", "q"), ("zz",), "p", ("call",)):
                if not plainlots.is_lot(thing, LINE):
                    self.assertEqual(raised(f, LINE, MAIN, thing, *more), ("BadLot", {}), thing)
            for lot in ((), ("p",), ("p", "r", "s")):
                self.assertEqual(raised(f, LINE, MAIN, lot, *more)[0], "told")


class JudgeTest(unittest.TestCase):
    def test_near_papers(self):
        line = (item(U), archive("a", P, made("v", piece("g", "room", 1), calls("zz"))), ("round", (archive("b", R), archive("c", S, Q))),
                library("li", (), (("zz", "code", 0),)))
        things = [(LINE, (), ("bar", PAPER)), (LINE, ("p", "s"), lot_with(LINE, MAIN, ("p", "s")))]
        for lot in ((), ("q",), ("s",), ("p", "v"), ("p", "q", "r")):
            things.append((line, lot, lot_with(line, MAIN, lot)))
        seen = {True: 0, False: 0}
        for some, lot, thing in things:
            self.assertTrue(plainlots.is_lot_with(some, MAIN, lot, thing))
            for other, by_kind in near(thing):
                told = is_lot_with(some, MAIN, lot, other)
                self.assertIs(told, plainlots.is_lot_with(some, MAIN, lot, other), other)
                self.assertFalse(told and by_kind)
                seen[told] += 1
            for other in weird_near(thing):
                self.assertIs(is_lot_with(some, MAIN, lot, other), plainlots.is_lot_with(some, MAIN, lot, other))
        self.assertGreater(seen[True], 15)
        for thing in WEIRD:
            self.assertIs(is_lot_with(LINE, MAIN, (), thing), False)

    def test_words_of_steps_exchanged(self):
        """Papers with a unit, a name, a number or a step otherwise."""
        seen = {True: 0, False: 0}
        for seed in range(120):
            rng = random.Random(seed)
            line, goal = loose_line(rng, 5, 0.25, 2)
            names = plainlots.names_of(plainlots.movable(line))
            units = [o[1] for o in plainlots.objects_of(line)]
            for lot in plainlots.lots_of(names):
                told = lot_with(line, goal, lot)
                if told[0] == "lot":
                    continue
                for _ in range(6):
                    steps = [list(step) for step in told[1]]
                    step = rng.choice(steps)
                    way = rng.randrange(6)
                    why = list(step[1])
                    if way == 0:
                        step[0] = tuple(sorted(set(step[0]) ^ {rng.choice(names)} if names else ()))
                    elif way == 1:
                        why[1] = rng.choice(["na", "nb", "nc", "nd", goal[1]])
                    elif way == 2:
                        why[2] = rng.choice(units + [None])
                    elif way == 3 and why[0] == "two":
                        why[3] = rng.choice(units)
                    elif way == 3:
                        why[3] = tuple(rng.randrange(len(steps)) for _ in why[3])
                    elif way == 4 and len(steps) > 1:
                        steps.remove(step)
                    else:
                        rng.shuffle(steps)
                    step[1] = tuple(why)
                    thing = ("bar", tuple(map(tuple, steps)))
                    right = plainlots.is_lot_with(line, goal, lot, thing)
                    self.assertIs(is_lot_with(line, goal, lot, thing), right, thing)
                    seen[right] += thing != told
        self.assertGreater(min(seen.values()), 100, seen)

    def test_no_paper_of_what_can_hold(self):
        """Whatever small papers are made up: the judge takes none for a lot that can be made one that holds."""
        line = (item(made("u", calls("main", "f"))), archive("a", made("p", calls("f", "g")), made("q", calls("f"), calls("g", "g"))))
        self.assertEqual((lots(line, MAIN), bars(line, MAIN)), ((("q",),), (("p",),)))
        whys = [("two", x, a, b) for x in ("main", "f", "g") for a in "upq" for b in "upq"]
        whys += [("wants", x, a, rows) for x in ("main", "f", "g") for a in ("u", "p", "q", None) for rows in ((), (0,), (0, 0), (0, 1), (1, 0))]
        steps = [(lot, why) for lot in plainlots.lots_of(("p", "q")) for why in whys]
        good = [(step,) for step in steps if plainlots.is_paper((step,), line, MAIN)]
        good += [one + (step,) for one in good for step in steps if plainlots.is_paper(one + (step,), line, MAIN)]
        self.assertGreater(len(good), 4)
        for paper, lot in itertools.product(good, plainlots.lots_of(("p", "q"))):
            told = is_lot_with(line, MAIN, lot, ("bar", paper))
            self.assertIs(told, set(paper[-1][0]) <= set(lot))
            self.assertFalse(told and "p" not in lot)

    def test_steps_one_by_one(self):
        own = made("o", code("f", reach="own"), calls("oo", "f"))
        line = (item(made("a", calls("main", "f"), calls("x"))), archive("aa", made("b", calls("f"), piece("d", "data", (1,))), own, made(
            "c", calls("f", force="weak"), piece("d", "code", (("return",),), force="weak"), calls("y", "z"))), item(made("e", piece("r", "room", 1))),
            archive("ab", made("g", piece("r", "room", 2), calls("x"))), library("li", (), (("z", "code", 0),)))
        for lot, why, right in (
                (("b", "c"), ("two", "d", "b", "c"), True), (("b", "c"), ("two", "f", "b", "c"), False), (("b", "c"), ("two", "d", "c", "b"), False),
                (("b", "c", "g"), ("two", "d", "b", "c"), True), (("b",), ("two", "d", "b", "c"), False), (("c",), ("two", "d", "b", "c"), False),
                (("g",), ("two", "x", "a", "g"), True), (("g",), ("two", "r", "e", "g"), False), ((), ("two", "x", "a", "g"), False),
                (("b", "o"), ("two", "f", "b", "o"), False), (("g",), ("two", "x", "g", "a"), False), (("g",), ("two", "x", "a", "zz"), False),
                (("g",), ("two", "x", "a", "g", 0), False), ((), ("two", "x", "a", "a"), False), (("g",), ("one", "x", "a", "g"), False),
                # A card has z; f is wanted, but has definers; own pieces define nothing.
                (("c",), ("wants", "z", "c", ()), False), ((), ("wants", "f", "a", ()), False), ((), ("wants", "main", None, ()), False),
                (("o",), ("wants", "f", "o", ()), False)):
            self.assertEqual(plainlots.is_lot_with(line, MAIN, lot, ("bar", ((lot, why),))), right, why)
            self.assertIs(is_lot_with(line, MAIN, lot, ("bar", ((lot, why),))), right, why)
        # The lots of the steps told in rows must have the definers' units, whatever else they have.
        line = (item(U), archive("aa", made("b", calls("f"), calls("x", "zz")), made("c", calls("main"))))
        two, none = (("c",), ("two", "main", "u", "c")), (("b",), ("wants", "zz", "b", ()))
        for steps, right in (((none, ((), ("wants", "f", "u", (0,)))), True), ((two, (("b",), ("wants", "f", "u", (0,)))), False), ((two, (("b", "c"), ("wants", "f", "u", (0,)))), False),
                             ((none, two, ((), ("wants", "f", "u", (1,)))), False), ((none, two, (("c",), ("wants", "f", "u", (0,)))), True), ((none, ((), ("wants", "f", "u", (1,)))), False)):
            self.assertEqual(plainlots.is_lot_with(line, MAIN, ("b", "c"), ("bar", steps)), right)
            self.assertIs(is_lot_with(line, MAIN, ("b", "c"), ("bar", steps)), right)
        # The entry, of which cards tell nothing.
        line = (library("li", (), (("main", "code", 0),)),)
        for why, right in ((("wants", "main", None, ()), True), (("wants", "main", "li", ()), False), (("wants", "f", None, ()), False)):
            self.assertIs(is_lot_with(line, MAIN, (), ("bar", (((), why),))), right)
        self.assertIs(is_lot_with(line, LIB, (), ("bar", (((), ("wants", "lz", None, ())),))), False)

    def test_many_calls_end(self):
        began = time.process_time()
        for seed in range(300):
            line, goal = loose_line(random.Random(seed), 8, 0.15, 1)
            for lot in ((),) + tuple((x,) for x in plainlots.names_of(plainlots.movable(line))):
                is_lot_with(line, goal, lot, lot_with(line, goal, lot))
        self.assertLess(time.process_time() - began, 20)


if __name__ == "__main__":
    unittest.main()
