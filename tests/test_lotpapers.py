import itertools
import random
import time
import unittest

from onebase.lotpapers import is_lot_with, lot_with
from onebase.lots import bars, lots
from tests import plainlink, plainlots
from tests.making import loose_line
from tests.support import WEIRD, archive, calls, code, item, library, made, near, piece, raised, weird_near
from tests.test_lots import LIB, LINE, S
from tests.test_plainlines import MAIN, P, Q, R, U

PAPER = ((("s",), ("two", "main", "u", "s")), (("r",), ("wants", "h", "r", ())), (("p",), ("wants", "g", "p", (1, 0))),
         ((), ("wants", "f", "u", (2,))))


class LotWithTest(unittest.TestCase):
    def test_example_by_hand(self):
        self.assertIs(is_lot_with(line=LINE, goal=MAIN, lot=(), thing=("bar", PAPER)), True)
        for lot in plainlots.lots_of(("p", "r", "s")):
            told = lot_with(line=LINE, goal=MAIN, lot=lot)
            self.assertEqual(told[0], "bar")
            self.assertTrue(plainlots.is_lot_with(LINE, MAIN, lot, told))
            self.assertIs(is_lot_with(LINE, MAIN, lot, ("bar", PAPER)), True)
        # The first steps are papers of their own lots.
        for many, lot in ((1, ("s",)), (2, ("r",)), (3, ("p",))):
            self.assertIs(is_lot_with(LINE, MAIN, lot, ("bar", PAPER[:many])), True)
            self.assertIs(is_lot_with(LINE, MAIN, (), ("bar", PAPER[:many])), False)
        self.assertIs(is_lot_with(LINE, MAIN, (), ("bar", ())), False)

    def test_lots_that_hold(self):
        line = (item(R), archive("a", Q, P), archive("b", made("v", calls("h", force="weak"))))
        self.assertEqual(lots(line, LIB), (("p", "q"), ("p", "q", "v"), ("p", "v"), ("q",), ("q", "v"), ("v",)))
        for lot, right in (((), 6), (("p",), 3), (("q",), 4), (("p", "v"), 2), (("p", "q", "v"), 1)):
            self.assertEqual(lot_with(line, LIB, lot)[0], "lot")
            self.assertEqual(sum(is_lot_with(line, LIB, lot, ("lot", other)) for other in plainlots.lots_of(("p", "q", "v"))), right)

    def test_just_one_of_the_two(self):
        """HEART: a lot can be made one that holds exactly if no lot that has a paper lies in it."""
        seen = {"lot": 0, "bar": 0}
        steps = 0
        for seed in range(250):
            rng = random.Random(seed)
            line, goal = loose_line(rng, rng.choice((4, 5, 6)), rng.choice((0, 0.15, 0.3)), 2)
            held, least = lots(line, goal), bars(line, goal)
            for lot in plainlots.lots_of(plainlots.names_of(plainlots.movable(line))):
                told = lot_with(line, goal, lot)
                self.assertEqual(told[0] == "lot", any(set(lot) <= set(other) for other in held))
                self.assertEqual(told[0] == "bar", any(set(other) <= set(lot) for other in least))
                self.assertTrue(plainlots.is_lot_with(line, goal, lot, told), told)
                self.assertIs(is_lot_with(line, goal, lot, told), True)
                seen[told[0]] += 1
                steps = max(steps, len(told[1]) if told[0] == "bar" else 0)
        self.assertGreater(min(seen.values()), 300, seen)
        self.assertGreater(steps, 5)

    def test_eight_that_hinder_one_another(self):
        """Each of eight is wanted, and each two of them are not to be had together; and nine."""
        units = [made("u" + chr(97 + k), calls("h", *["n" + chr(97 + j) for j in range(8) if j != k]), calls("n" + chr(97 + k))) for k in range(9)]
        line = (archive("a", *units[:5]), archive("b", *units[5:8]))
        self.assertEqual(bars(line, ("program", "h")), ((),))
        told = lot_with(line, ("program", "h"), ())
        self.assertTrue(plainlots.is_lot_with(line, ("program", "h"), (), told))
        # Nine: BadLot ahead of TooMany.
        line += (archive("c", units[8]),)
        for f, more in ((lot_with, ()), (is_lot_with, (None,))):
            self.assertEqual(raised(f, line, ("program", "h"), (), *more), ("TooMany", {"most": 8}))
            self.assertEqual(raised(f, line, ("program", "h"), ("zz",), *more), ("BadLot", {}))
            self.assertEqual(raised(f, line, None, ("zz",), *more), ("BadGoal", {}))
            self.assertEqual(raised(f, line + line, None, ("zz",), *more), ("BadLine", {}))
            self.assertEqual(raised(f, line + (library("li", ("lo",)),), LIB, ("zz",), *more), ("NoLibrary", {"name": "lo"}))

    def test_no_lots(self):
        for f, more in ((lot_with, ()), (is_lot_with, (None,))):
            for thing in WEIRD + (("u",), ("p", "p"), ("r", "p"), ["p"], ("p", None), ("p", "q"), ("zz",), "p", ("call",)):
                if not plainlots.is_lot(thing, LINE):
                    self.assertEqual(raised(f, LINE, MAIN, thing, *more), ("BadLot", {}), thing)
            for lot in ((), ("p",), ("p", "r", "s")):
                self.assertEqual(raised(f, LINE, MAIN, lot, *more)[0], "told")


class JudgeTest(unittest.TestCase):
    def test_near_papers(self):
        line = (item(U), archive("a", P, made("v", piece("g", "room", 1), calls("zz"))), ("round", (archive("b", R), archive("c", S, Q))),
                library("li", (), (("zz", "code", 0),)))
        things = [(LINE, (), ("bar", PAPER)), (LINE, ("p", "s"), lot_with(LINE, MAIN, ("p", "s")))]
        for lot in ((), ("q",), ("s",), ("p", "v"), ("p", "q", "r")):
            things.append((line, lot, lot_with(line, MAIN, lot)))
        seen = {True: 0, False: 0}
        for some, lot, thing in things:
            self.assertTrue(plainlots.is_lot_with(some, MAIN, lot, thing))
            for other, by_kind in near(thing):
                told = is_lot_with(some, MAIN, lot, other)
                self.assertIs(told, plainlots.is_lot_with(some, MAIN, lot, other), other)
                self.assertFalse(told and by_kind)
                seen[told] += 1
            for other in weird_near(thing):
                self.assertIs(is_lot_with(some, MAIN, lot, other), plainlots.is_lot_with(some, MAIN, lot, other))
        self.assertGreater(seen[True], 15)
        for thing in WEIRD:
            self.assertIs(is_lot_with(LINE, MAIN, (), thing), False)

    def test_words_of_steps_exchanged(self):
        """Papers with a unit, a name, a number or a step otherwise."""
        seen = {True: 0, False: 0}
        for seed in range(120):
            rng = random.Random(seed)
            line, goal = loose_line(rng, 5, 0.25, 2)
            names = plainlots.names_of(plainlots.movable(line))
            units = [o[1] for o in plainlots.objects_of(line)]
            for lot in plainlots.lots_of(names):
                told = lot_with(line, goal, lot)
                if told[0] == "lot":
                    continue
                for _ in range(8):
                    steps = [list(step) for step in told[1]]
                    step = rng.choice(steps)
                    way = rng.randrange(8)
                    why = list(step[1])
                    if way == 0:
                        step[0] = tuple(sorted(set(step[0]) ^ {rng.choice(names)} if names else ()))
                    elif way == 1:
                        why[1] = rng.choice(["na", "nb", "nc", "nd", goal[1]])
                    elif way == 2:
                        why[2] = rng.choice(units + [None])
                    elif way == 3 and why[0] == "two":
                        why[3] = rng.choice(units)
                    elif way == 3:
                        why[3] = tuple(rng.randrange(len(steps)) for _ in why[3])
                    elif way == 4 and len(steps) > 1:
                        steps.remove(step)
                    elif way == 5:
                        rng.shuffle(steps)
                    else:
                        # Told a second time a step is right; whether it can be the last one hangs on its lot.
                        steps.insert(len(steps) - (way == 7), step)
                    step[1] = tuple(why)
                    thing = ("bar", tuple(map(tuple, steps)))
                    right = plainlots.is_lot_with(line, goal, lot, thing)
                    self.assertIs(is_lot_with(line, goal, lot, thing), right, thing)
                    seen[right] += thing != told
        self.assertGreater(min(seen.values()), 100, seen)

    def test_no_paper_of_what_can_hold(self):
        """Whatever small papers are made up: the judge takes none for a lot that can be made one that holds."""
        line = (item(made("u", calls("main", "f"))), archive("a", made("p", calls("f", "g")), made("q", calls("f"), calls("g", "g"))))
        self.assertEqual((lots(line, MAIN), bars(line, MAIN)), ((("q",),), (("p",),)))
        whys = [("two", x, a, b) for x in ("main", "f", "g") for a in "upq" for b in "upq"]
        whys += [("wants", x, a, rows) for x in ("main", "f", "g") for a in ("u", "p", "q", None) for rows in ((), (0,), (0, 0), (0, 1), (1, 0))]
        steps = [(lot, why) for lot in plainlots.lots_of(("p", "q")) for why in whys]
        good = [(step,) for step in steps if plainlots.is_paper((step,), line, MAIN)]
        good += [one + (step,) for one in good for step in steps if plainlots.is_paper(one + (step,), line, MAIN)]
        self.assertGreater(len(good), 4)
        for paper, lot in itertools.product(good, plainlots.lots_of(("p", "q"))):
            told = is_lot_with(line, MAIN, lot, ("bar", paper))
            self.assertIs(told, set(paper[-1][0]) <= set(lot))
            self.assertFalse(told and "p" not in lot)

    def same(self, line, steps, right):
        """The steps as a paper, for the lot of all units of archives, by both readings."""
        every = plainlots.names_of(plainlots.movable(line))
        self.assertIs(plainlots.is_lot_with(line, MAIN, every, ("bar", steps)), right, steps)
        self.assertIs(is_lot_with(line, MAIN, every, ("bar", steps)), right, steps)

    def only(self, line, ahead, why, *lots_told):
        """Behind these steps a step with this why is right with the lots told, none or one, and with no other."""
        for lot in plainlots.lots_of(plainlots.names_of(plainlots.movable(line))):
            self.same(line, ahead + ((lot, why),), lot in lots_told)

    def test_no_other_units_in_lots(self):
        # Neither of two stands in an archive, one does, both do; b and c have data and code d.
        line = (item(made("u", calls("main"))), archive("aa", made("r", calls("g")), made("w", calls("main"), piece("d", "data", (1,)))), item(made("v", calls("main"))),
                ("round", (archive("ab", made("x", code("d", force="weak"))), archive("ac", made("y", calls("zz", "zy"))))))
        for why, lot in ((("two", "main", "u", "v"), ()), (("two", "main", "u", "w"), ("w",)), (("two", "main", "w", "v"), ("w",)), (("two", "d", "w", "x"), ("w", "x"))):
            self.only(line, (), why, lot)
        for why in (("two", "main", "v", "u"), ("two", "g", "r", "w"), ("two", "main", "r", "w")):
            self.only(line, (), why)
        self.only(line, (), ("wants", "zy", "y", ()), ("y",))

    def test_what_is_left_of_rows(self):
        # b, which has f, wants k, which c has; c has x together with d and e, which are not wanted.
        line = (item(U), archive("aa", made("b", calls("f", "k")), made("c", calls("k"), calls("x"))), archive("ab", made("d", calls("x")), made("e", calls("x"))))
        steps = ((("c", "d"), ("two", "x", "c", "d")), (("c", "e"), ("two", "x", "c", "e")), (("b", "d"), ("wants", "k", "b", (0,))), (("b", "e"), ("wants", "k", "b", (1,))))
        for many, (lot, why) in enumerate(steps):
            self.only(line, steps[:many], why, lot)
        self.only(line, steps, ("wants", "f", "u", (2,)), ("d",))
        self.only(line, steps, ("wants", "f", "u", (3,)), ("e",))
        self.only(line, steps, ("wants", "f", "u", (0,)))
        self.only(line, steps, ("wants", "k", "b", (2,)))

    def test_definers_that_come_back(self):
        # p and q both have f and want what is nowhere; each one's unit is left out of its own row's lot alone.
        line = (item(U), archive("aa", made("p", calls("f", "zz")), made("q", calls("f"), calls("y", "zy"))))
        both, p, q = (("p", "q"), ("two", "f", "p", "q")), (("p",), ("wants", "zz", "p", ())), (("q",), ("wants", "zy", "q", ()))
        ahead = (both, p, q)
        for rows, lot in (((1, 2), ()), ((0, 2), ("q",)), ((1, 0), ("p",)), ((0, 0), ("p", "q"))):
            self.only(line, ahead, ("wants", "f", "u", rows), lot)
        for rows in ((2, 1), (1,), (2,), (), (1, 2, 2), (1, 1), (1, 3)):
            self.only(line, ahead, ("wants", "f", "u", rows))
        # Who wants a name that it has itself stands in the step's lot, though its row's lot is told without it.
        line = (archive("aa", made("p", calls("f", "f")), made("q", calls("f"), calls("main"))), item(made("u", calls("main"))))
        both, q = (("p", "q"), ("two", "f", "p", "q")), (("q",), ("two", "main", "q", "u"))
        self.only(line, (both, q), ("wants", "f", "p", (0, 1)), ("p", "q"))
        self.only(line, (both, q), ("wants", "f", "p", (0, 0)), ("p", "q"))
        self.only(line, (both, q), ("wants", "f", "q", (0, 1)))

    def test_one_lot_for_each_why(self):
        """Of drawn lines: behind steps that are right at most one lot is, and just what the second reading tells."""
        seen = {0: 0, 1: 0}
        stray = 0
        for seed in range(60):
            rng = random.Random(seed)
            line, goal = loose_line(rng, 5, 0.3, 2)
            every = plainlots.names_of(plainlots.movable(line))
            objects = plainlots.objects_of(line)
            twos = [("two", x, a[1], b[1]) for a, b in itertools.combinations(objects, 2) for x in plainlink.shown(a) if x in plainlink.shown(b)]
            wants = [(x, o[1]) for o in objects for x in sorted(plainlink.wanted(o))] + [(goal[1], None)]
            steps = ()
            for _ in range(30):
                x, a = rng.choice(wants)
                due = [o[1] for o in plainlots.movable(line) if x in plainlink.shown(o)]
                rows = [[k for k, step in enumerate(steps) if unit in step[0]] for unit in due]
                why = rng.choice(twos) if twos and not all(rows) else ("wants", x, a, tuple(rng.choice(ks) if ks else 0 for ks in rows))
                right = [lot for lot in plainlots.lots_of(every) if plainlots.is_step((lot, why), [step[0] for step in steps], line, goal)]
                for lot in plainlots.lots_of(every):
                    self.assertIs(is_lot_with(line, goal, every, ("bar", steps + ((lot, why),))), lot in right, why)
                self.assertLess(len(right), 2)
                seen[len(right)] += 1
                steps += tuple((lot, why) for lot in right)
                stray += len(right) > 0 and why[0] == "wants" and right[0] != ()
        self.assertGreater(min(seen.values()), 300, seen)
        self.assertGreater(stray, 50)

    def test_steps_one_by_one(self):
        own = made("o", code("f", reach="own"), calls("oo", "f"))
        line = (item(made("a", calls("main", "f"), calls("x"))), archive("aa", made("b", calls("f"), piece("d", "data", (1,))), own, made(
            "c", calls("f", force="weak"), piece("d", "code", (("return",),), force="weak"), calls("y", "z"))), item(made("e", piece("r", "room", 1))),
            archive("ab", made("g", piece("r", "room", 2), calls("x"))), library("li", (), (("z", "code", 0),)))
        for lot, why, right in (
                (("b", "c"), ("two", "d", "b", "c"), True), (("b", "c"), ("two", "f", "b", "c"), False), (("b", "c"), ("two", "d", "c", "b"), False),
                (("b", "c", "g"), ("two", "d", "b", "c"), False), (("b", "g"), ("two", "x", "a", "g"), False), (("b",), ("two", "d", "b", "c"), False), (("c",), ("two", "d", "b", "c"), False),
                (("g",), ("two", "x", "a", "g"), True), (("g",), ("two", "r", "e", "g"), False), ((), ("two", "x", "a", "g"), False),
                (("b", "o"), ("two", "f", "b", "o"), False), (("g",), ("two", "x", "g", "a"), False), (("g",), ("two", "x", "a", "zz"), False),
                (("g",), ("two", "x", "a", "g", 0), False), ((), ("two", "x", "a", "a"), False), (("g",), ("one", "x", "a", "g"), False),
                # A card has z; f is wanted, but has definers; own pieces define nothing.
                (("c",), ("wants", "z", "c", ()), False), ((), ("wants", "f", "a", ()), False), ((), ("wants", "main", None, ()), False),
                (("o",), ("wants", "f", "o", ()), False)):
            self.assertEqual(plainlots.is_lot_with(line, MAIN, lot, ("bar", ((lot, why),))), right, why)
            self.assertIs(is_lot_with(line, MAIN, lot, ("bar", ((lot, why),))), right, why)
        # The lots of the steps told in rows must have the definers' units; the step's lot has what is left of them, and nothing else.
        line = (item(U), archive("aa", made("b", calls("f"), calls("x", "zz")), made("c", calls("main"))))
        two, none = (("c",), ("two", "main", "u", "c")), (("b",), ("wants", "zz", "b", ()))
        for steps, right in (((none, ((), ("wants", "f", "u", (0,)))), True), ((two, (("b",), ("wants", "f", "u", (0,)))), False), ((two, (("b", "c"), ("wants", "f", "u", (0,)))), False),
                             ((none, two, ((), ("wants", "f", "u", (0,)))), True), ((none, two, ((), ("wants", "f", "u", (1,)))), False),
                             ((none, two, (("c",), ("wants", "f", "u", (0,)))), False), ((none, (("b",), ("wants", "f", "u", (0,)))), False), ((none, ((), ("wants", "f", "u", (1,)))), False),
                             (((("b", "c"), none[1]),), False), (((("b", "c"), two[1]),), False)):
            self.same(line, steps, right)
        # The entry, of which cards tell nothing.
        line = (library("li", (), (("main", "code", 0),)),)
        for why, right in ((("wants", "main", None, ()), True), (("wants", "main", "li", ()), False), (("wants", "f", None, ()), False)):
            self.assertIs(is_lot_with(line, MAIN, (), ("bar", (((), why),))), right)
        self.assertIs(is_lot_with(line, LIB, (), ("bar", (((), ("wants", "lz", None, ())),))), False)

    def test_many_calls_end(self):
        began = time.process_time()
        for seed in range(300):
            line, goal = loose_line(random.Random(seed), 8, 0.15, 1)
            for lot in ((),) + tuple((x,) for x in plainlots.names_of(plainlots.movable(line))):
                is_lot_with(line, goal, lot, lot_with(line, goal, lot))
        self.assertLess(time.process_time() - began, 20)


if __name__ == "__main__":
    unittest.main()
