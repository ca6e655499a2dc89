import itertools
import random
import time
import unittest

from onebase.taking import members
from onebase.wantpapers import is_want_paper, want_paper
from tests import plainlink, plainlots
from tests.making import loose_line, one_goal, one_line
from tests.support import WEIRD, archive, calls, code, item, library, made, near, raised, weird_near
from tests.test_plainlines import LINE, MAIN, P, Q, R, U

LIB = ("library", "lz")


class WantPaperTest(unittest.TestCase):
    def test_example_by_hand(self):
        line = (LINE[0], archive("one", P), archive("two", R), archive("three", Q))
        paper = (None, ("f", 0), ("g", 1), ("h", 2))
        self.assertEqual(want_paper(line, MAIN), paper)
        self.assertEqual(want_paper(line=line, goal=MAIN), paper)
        self.assertIs(is_want_paper(line=line, goal=MAIN, thing=paper), True)
        self.assertEqual(want_paper(LINE, MAIN), (None, ("f", 0), ("g", 1)))
        self.assertEqual(want_paper((archive("one", U, P),), MAIN), (("main", None), ("f", 0)))
        self.assertEqual(want_paper((), MAIN), ())
        self.assertEqual(want_paper(LINE[1:], LIB), ())

    def test_all_papers(self):
        """All things of a name and a number, of which the judge takes those that the second reading takes."""
        two = made("two", calls("f", "g", "main"), code("k"))
        lines = (
            (item(U), archive("one", two), archive("two", R, Q)), (archive("one", U, two), item(made("w", calls("x", "k", "f"))), archive("two", R)),
            (item(made("w", calls("x", "f", "k"))), item(made("v", calls("y", "k"))), archive("one", two), archive("two", U)),
            (item(made("w", calls("x", "k", "f"))), library("li", (), (("k", "code", 0),)), archive("one", two, U)),
            (item(made("w", calls("x", "main"))), library("li", (), (("main", "code", 0),)), archive("one", U, two)),
            (item(made("w", calls("x", "main"))), library("li", (), (("main", "code", 0),)), archive("one", two, U), archive("two", R, Q)))
        right = 0
        for line in lines:
            for goal in (MAIN, LIB, ("program", "k")):
                taken = members(line, goal)
                names = ("main", "f", "g", "h", "k", "x")
                reasons = [None] + [(x, m) for x in names for m in (None,) + tuple(range(len(taken)))]
                paper = want_paper(line, goal)
                self.assertTrue(plainlots.is_want_paper(line, goal, paper))
                for at in range(len(taken)):
                    for why in reasons:
                        thing = paper[:at] + (why,) + paper[at + 1:]
                        told = is_want_paper(line, goal, thing)
                        self.assertIs(told, plainlots.is_want_paper(line, goal, thing), thing)
                        right += told
        self.assertGreater(right, 60)

    def test_entry_and_wants(self):
        """The entry may be told as such, or by who wants it; a card ahead hides a want, not the entry."""
        line = (item(made("w", calls("x", "main"))), archive("one", U))
        for thing, right in (((None, ("main", None)), True), ((None, ("main", 0)), True), ((None, ("main", 1)), False), ((None, ("x", 0)), False),
                             ((("main", None), None), False), ((None, None), False), ((None, ("main", None), None), False), ((None,), False)):
            self.assertIs(is_want_paper(line, MAIN, thing), right)
        self.assertIs(is_want_paper(line, LIB, (None, ("main", 0))), True)
        self.assertIs(is_want_paper(line, LIB, (None, ("main", None))), False)
        # A name that was open earlier, but is defined by then, is none.
        both = made("both", calls("main"), calls("x", "main"))
        line = (item(made("w", calls("y", "x"))), archive("one", made("v", calls("x", "z")), made("b", calls("z"), code("x", force="weak"))))
        self.assertEqual(want_paper(line, LIB), (None, ("x", 0), ("z", 1)))
        self.assertIs(is_want_paper(line, LIB, (None, ("x", 0), ("x", 0))), False)
        self.assertEqual(want_paper((archive("one", both),), MAIN), (("main", None),))
        # The member itself is not ahead of it.
        self.assertIs(is_want_paper((archive("one", both),), MAIN, (("main", 0),)), False)

    def test_drawn_lines(self):
        """A paper; and FACT: from each member a road of such pairs leads back to the entry or an object item."""
        many = 0
        for seed in range(500):
            rng = random.Random(seed)
            line, goal = (loose_line(rng, 7, rng.choice((0, 0.2))) if seed % 2 else (one_line(rng, 0.1), one_goal(rng)))
            told = raised(want_paper, line, goal)
            self.assertEqual(told[0] == "told", plainlink.outcome(plainlink.members, line, goal)[0] == "told" and raised(members, line, goal)[0] == "told")
            if told[0] != "told":
                continue
            paper = told[1]
            self.assertTrue(plainlots.is_want_paper(line, goal, paper))
            self.assertIs(is_want_paper(line, goal, paper), True)
            for at in range(len(paper)):
                while paper[at] is not None:
                    many += 1
                    x, m = paper[at]
                    if m is None:
                        self.assertEqual(("program", x), goal)
                        break
                    self.assertLess(m, at)
                    at = m
            if paper:
                at = rng.randrange(len(paper))
                for why in (None, (rng.choice("abcf"), 0), ("nb", rng.randrange(len(paper))), (goal[1], None)):
                    thing = paper[:at] + (why,) + paper[at + 1:]
                    self.assertIs(is_want_paper(line, goal, thing), plainlots.is_want_paper(line, goal, thing))
        self.assertGreater(many, 300)

    def test_near_right_ones(self):
        for line in ((item(U), archive("one", P), archive("two", R, Q)), (archive("one", Q, R, P, U),)):
            paper = want_paper(line, MAIN)
            for other, by_kind in near(paper):
                told = is_want_paper(line, MAIN, other)
                self.assertIs(told, plainlots.is_want_paper(line, MAIN, other), other)
                self.assertFalse(told and by_kind)
            for other in itertools.chain(weird_near(paper), WEIRD):
                self.assertIs(is_want_paper(line, MAIN, other), plainlots.is_want_paper(line, MAIN, other))

    def test_errors(self):
        for f, more in ((want_paper, ()), (is_want_paper, (None,))):
            self.assertEqual(raised(f, list(LINE), None, *more), ("BadLine", {}))
            self.assertEqual(raised(f, LINE + LINE, None, *more), ("BadLine", {}))
            self.assertEqual(raised(f, LINE + (library("li", ("lo",)),), ("library", "li"), *more), ("BadGoal", {}))
            self.assertEqual(raised(f, LINE + (library("li", ("lo",)),), MAIN, *more), ("NoLibrary", {"name": "lo"}))
            # What naming raises is not asked.
            self.assertEqual(raised(f, (item(U),), MAIN, *more)[0], "told")

    def test_many_calls_end(self):
        began = time.process_time()
        for seed in range(2000):
            line, goal = loose_line(random.Random(seed), 8)
            is_want_paper(line, goal, want_paper(line, goal))
        self.assertLess(time.process_time() - began, 20)


if __name__ == "__main__":
    unittest.main()
