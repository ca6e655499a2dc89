import random
import time
import unittest

from onebase.grouping import grouped, groups, is_groups
from onebase.naming import naming
from onebase.orders import order
from onebase.taking import members
from tests import plain, plainlots
from tests.making import loose_line
from tests.support import WEIRD, archive, calls, item, library, made, near, raised, weird_near
from tests.test_orders import CHAIN, drawn
from tests.test_plainlines import LINE, MAIN, P, Q, R, U

# Of these three archives no two come together: each waits twice for the next.
WAYS = ["main"] + ["n" + chr(97 + k) for k in range(6)]
SIX = [made("u" + chr(97 + k), calls(WAYS[k], WAYS[k + 1])) for k in range(6)]
THREE = (archive("aa", SIX[0], SIX[3]), archive("ab", SIX[1], SIX[4]), library("li"), archive("ac", SIX[2], SIX[5]), item(made("v", calls("nf"))))


def are_lots(thing, many):
    if type(thing) is not tuple or any(type(g) is not tuple or not g for g in thing):
        return False
    if any(type(n) is not int or not 0 <= n < many for g in thing for n in g):
        return False
    return all(list(g) == sorted(set(g)) for g in thing) and sorted(n for g in thing for n in g) == list(range(many))


class GroupsTest(unittest.TestCase):
    def test_example_by_hand(self):
        self.assertEqual(groups(LINE, MAIN), ((0,), (1, 2)))
        told = grouped(LINE, groups(line=LINE, goal=MAIN))
        self.assertEqual(told, (LINE[0], ("round", LINE[1:])))
        self.assertEqual(members(told, MAIN), (U, P, R, Q))
        self.assertIs(is_groups(line=LINE, goal=MAIN, thing=((0,), (1, 2))), True)
        for thing in (((1, 2), (0,)), ((0,), (1,), (2,)), ((0, 1, 2),), ((0,), (2,), (1,))):
            self.assertIs(is_groups(LINE, MAIN, thing), False)

    def test_three_together(self):
        line = (THREE[0], THREE[1], THREE[3], item(made("v", calls("nf"))))
        self.assertEqual(groups(line, MAIN), ((3,), (0, 1, 2)))
        self.assertIs(is_groups(line, MAIN, ((0, 1, 2), (3,))), False)
        self.assertEqual(sorted(groups(THREE, MAIN)), [(0, 1, 3), (2,), (4,)])
        # Free items come at any place, but ahead of what comes together.
        self.assertIs(is_groups(THREE, MAIN, ((4,), (2,), (0, 1, 3))), True)
        self.assertIs(is_groups(THREE, MAIN, ((2,), (0, 1, 3), (4,))), False)
        told = grouped(THREE, ((2,), (4,), (0, 1, 3)))
        self.assertEqual([o[1] for o in members(told, MAIN)], ["v", "ua", "ub", "uc", "ud", "ue", "uf"])
        # Rounds come together, too, with the archives of all of them.
        line = (("round", (THREE[0], archive("b"))), ("round", (THREE[1],)), THREE[3], THREE[4])
        self.assertEqual(groups(line, MAIN), ((3,), (0, 1, 2)))
        self.assertEqual(grouped(line, ((3,), (0, 1, 2)))[1], ("round", (THREE[0], archive("b"), THREE[1], THREE[3])))

    def test_all_partings(self):
        """Of all ways to part up to five items the judge takes just those that are groups."""
        seen = {1: 0, 2: 0}
        for rng, line, goal, held in drawn(450, 4):
            for thing in plainlots.ordered_partings(list(range(len(line)))):
                right = held.are_groups(thing)
                self.assertIs(is_groups(line, goal, thing), right, thing)
                if right:
                    seen[min(max(map(len, thing), default=1), 2)] += 1
        self.assertGreater(min(seen.values()), 20, seen)
        held = plainlots.Orders(THREE, MAIN)
        some = [thing for thing in plainlots.ordered_partings(list(range(5))) if held.are_groups(thing)]
        self.assertEqual(some, [thing for thing in plainlots.ordered_partings(list(range(5))) if is_groups(THREE, MAIN, thing)])
        self.assertEqual(len(some), 2)

    def test_rounds(self):
        """HEART: there always are groups; naming of grouped raises no Missing; single items exactly without a knot."""
        seen = {True: 0, False: 0}
        for rng, line, goal, held in drawn(500, 6):
            told = groups(line, goal)
            self.assertTrue(held.are_groups(told))
            self.assertIs(is_groups(line, goal, told), True)
            self.assertNotEqual(raised(naming, grouped(line, told), goal)[0], "Missing")
            single = all(len(group) == 1 for group in told)
            self.assertEqual(single, order(line, goal)[0] == "order")
            seen[single] += 1
        self.assertGreater(min(seen.values()), 20, seen)

    def test_near_right_ones(self):
        for line in (LINE, CHAIN, THREE):
            held = plainlots.Orders(line, MAIN)
            for thing in (groups(line, MAIN), tuple((n,) for n in range(len(line)))):
                for other, by_kind in near(thing):
                    told = is_groups(line, MAIN, other)
                    self.assertIs(told, are_lots(other, len(line)) and held.are_groups(other), other)
                    self.assertFalse(told and by_kind)
                for other in weird_near(thing):
                    self.assertIs(is_groups(line, MAIN, other), are_lots(other, len(line)) and held.are_groups(other))
        for thing in WEIRD:
            self.assertIs(is_groups(LINE, MAIN, thing), False)
        self.assertIs(is_groups((), ("library", "lz"), ()), True)
        self.assertEqual(groups((), ("library", "lz")), ())


class GroupedTest(unittest.TestCase):
    def told(self, line, thing):
        """The second reading of grouped."""
        if not plain.is_line(line):
            return ("BadLine", {})
        if not are_lots(thing, len(line)) or any(len(g) > 1 and line[n][0] not in ("archive", "round") for g in thing for n in g):
            return ("BadGroups", {})
        found = []
        for g in thing:
            items = [line[n] for n in g]
            archives = tuple(a for one in items for a in ([one] if one[0] == "archive" else one[1]))
            found.append(items[0] if len(g) == 1 else ("round", archives))
        return ("told", tuple(found))

    def test_all_partings(self):
        """Whether they are groups or not, of any line."""
        for line in (LINE, CHAIN, THREE[:4], (item(Q), item(R), archive("a", P), ("round", ()), ("round", (archive("b"), archive("c", U)))),
                     (item(Q), archive("a", made("w", calls("h"))), library("li", ("lo",)))):
            for thing in plainlots.ordered_partings(list(range(len(line)))):
                self.assertEqual(raised(grouped, line, thing), self.told(line, thing))
        self.assertEqual(grouped(line=(), groups=()), ())

    def test_wrong_inputs(self):
        for thing in WEIRD:
            self.assertEqual(raised(grouped, thing, ((0,),)), self.told(thing, ((0,),)))
            self.assertEqual(raised(grouped, LINE, thing), ("BadGroups", {}))
            self.assertEqual(raised(grouped, (), thing), self.told((), thing))
        self.assertEqual(raised(grouped, (item(Q), item(Q)), None), ("BadLine", {}))
        for thing in (((0,), (1, 2)), ((2,), (1,), (0,))):
            for other, _ in near(thing):
                self.assertEqual(raised(grouped, LINE, other), self.told(LINE, other))
            for other in weird_near(thing):
                self.assertEqual(raised(grouped, LINE, other), self.told(LINE, other))


class SpeedTest(unittest.TestCase):
    def test_many_calls_end(self):
        began = time.process_time()
        for seed in range(1500):
            line, goal = loose_line(random.Random(seed))
            told = raised(groups, line, goal)
            if told[0] == "told":
                is_groups(line, goal, told[1])
                grouped(line, told[1])
        names = ["main"] + ["n" + chr(97 + k) for k in range(23)]
        units = [made("u" + chr(97 + k), calls(names[k], *names[k + 1:k + 2])) for k in range(24)]
        line = tuple(archive("a" + chr(97 + k), units[k], units[k + 12]) for k in range(12))
        for _ in range(5):
            self.assertEqual(groups(line, MAIN), (tuple(range(12)),))
        self.assertIs(is_groups(line, MAIN, (tuple(range(12)),)), True)
        self.assertLess(time.process_time() - began, 20)


if __name__ == "__main__":
    unittest.main()
