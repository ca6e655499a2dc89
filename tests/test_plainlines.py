import random
import unittest

from onebase.grouping import groups, is_groups
from onebase.naming import leads_to, naming
from onebase.orders import is_order, order, order_with
from onebase.plainlines import needed
from onebase.taking import members
from tests import plainlink, plainlots
from tests.making import loose_line, one_goal, one_line
from tests.support import archive, calls, code, item, library, made, piece, raised

MAIN = ("program", "main")
U = made("u", calls("main", "f"))
P = made("p", calls("f", "g"))
R = made("r", calls("g", "h"))
Q = made("q", calls("h"))
LINE = (item(U), archive("one", P, Q), archive("two", R))

# All functions of [36] and [37] raise what needed does, ahead of all else.
ALL = ((needed, ()), (order, ()), (is_order, (None,)), (order_with, (None, None)), (groups, ()), (is_groups, (None,)))


class NeededTest(unittest.TestCase):
    def refused(self, line, goal, *told):
        for f, more in ALL:
            self.assertEqual(raised(f, line, goal, *more), told, f)

    def test_example_by_hand(self):
        self.assertEqual(needed(LINE, MAIN), ("p", "q", "r", "u"))
        self.assertEqual(needed(line=LINE, goal=MAIN), ("p", "q", "r", "u"))

    def test_what_is_needed(self):
        for line, goal, told in (
                ((), ("library", "lz"), ()), ((item(Q), item(R)), ("library", "lz"), ("q", "r")),
                # Of archives only what is wanted, however far, wherever it stands.
                ((archive("one", P, Q, R),), ("library", "lz"), ()), ((archive("one", Q, R, P),), ("program", "f"), ("p", "q", "r")),
                ((archive("one", Q, R, P),), ("program", "g"), ("q", "r")), ((archive("one", Q), item(R)), ("library", "lz"), ("q", "r")),
                ((("round", (archive("one", Q), archive("two", P, R))),), ("program", "g"), ("q", "r")),
                # Cards have what they export: nothing is needed for it.
                ((item(R), library("li", (), (("h", "code", 0),))), ("library", "lz"), ("r",)),
                ((item(R), archive("one", U), library("li", (), (("h", "code", 0),))), ("library", "lz"), ("r",)),
                # A spare is not wanted; what a unit itself has as own is not either.
                ((item(made("r", calls("g", "h"), spares=("h",))), archive("one", Q)), ("library", "lz"), ("r",)),
                ((item(made("r", calls("g", "h"), code("h", reach="own"))), archive("one", Q)), ("library", "lz"), ("r",)),
                # Data and rooms are given, too; tables and takes want.
                ((item(made("r", code("g", ("load", 0, "d", 0), ("return",)), piece("t", "table", ("h",)))), archive("one", Q),
                  archive("two", made("v", piece("d", "room", 2)))), ("library", "lz"), ("q", "r", "v")),
                # A library's own name is no entry.
                ((archive("one", P, Q), item(made("v", calls("a", "h")))), ("library", "f"), ("q", "v")),
                # What wants what it has itself brings nothing in.
                ((archive("one", made("v", calls("f", "f"))),), ("library", "lz"), ()),
                ((archive("one", made("v", calls("f", "f"))),), ("program", "f"), ("v",))):
            self.assertEqual(needed(line, goal), told)
            self.assertEqual(plainlots.needed(line, goal), told)

    def test_not_plain(self):
        weak = made("w", calls("h", force="weak"))
        for line, goal, x in (
                ((item(Q), item(weak)), ("library", "lz"), "h"), ((archive("one", Q, weak),), ("library", "lz"), "h"),
                ((archive("one", Q), ("round", (archive("two", weak),))), MAIN, "h"),
                ((item(Q), library("li", (), (("h", "data", 1),))), MAIN, "h"),
                ((library("li", (), (("h", "code", 0),)), library("lo", (), (("a", "code", 0), ("h", "code", 0)))), MAIN, "h"),
                # The least name, be it needed or not; whatever is missing.
                ((item(made("v", calls("b"), calls("a"))), item(made("w", calls("a"), calls("b")))), MAIN, "a"),
                ((item(U), archive("one", made("x", calls("zz")), made("w", piece("zz", "room", 1)))), MAIN, "zz")):
            self.refused(line, goal, "NotPlain", {"name": x})
        # Own pieces define nothing; wanted by two is no double.
        own = made("w", calls("b", "h"), code("h", reach="own"))
        self.assertEqual(needed((item(Q), item(own)), ("library", "lz")), ("q", "w"))
        self.assertEqual(needed((item(Q), archive("one", made("v", calls("a", "h")), made("w", calls("b", "h")))), ("library", "lz")), ("q",))

    def test_missing(self):
        for line, goal, names in (
                ((), MAIN, ("main",)), ((item(U),), MAIN, ("f",)), ((item(U), archive("one", P, R)), MAIN, ("h",)),
                ((item(made("v", calls("a", "d", "c", "b"))), archive("one", made("w", calls("c", "e")))), ("program", "x"), ("b", "d", "e", "x")),
                # What is given weakly only is not brought in; what is not needed misses nothing.
                ((item(R), archive("one", made("q", calls("h", force="weak")))), ("library", "lz"), ("h",)),
                ((archive("one", made("q", calls("main", force="weak"))),), MAIN, ("main",)),
                # A card's export is no entry.
                ((library("li", (), (("main", "code", 0),)),), MAIN, ("main",))):
            self.refused(line, goal, "Missing", {"names": names})
        self.assertEqual(needed((item(Q), archive("one", U)), ("library", "lz")), ("q",))
        # Once in, a weak piece defines.
        self.assertEqual(needed((item(R), item(made("q", calls("h", force="weak")))), ("program", "h")), ("q", "r"))

    def test_errors_in_order(self):
        twice = (item(Q), archive("one", made("w", calls("h"), calls("i", "j"))))
        for bad in (None, list(LINE), (item(Q), item(Q)), LINE + (archive("one"),), LINE + (("object", 0),)):
            self.refused(bad, None, "BadLine", {})
        for goal in (None, ("program", "call"), ["program", "main"], ("library", "li"), ("program", "main", 0)):
            self.refused(twice + (library("li", ("lo",)),), goal, "BadGoal", {})
        self.refused(twice + (library("li", ("lo", "le")),), MAIN, "NoLibrary", {"name": "lo"})
        self.refused(twice, MAIN, "NotPlain", {"name": "h"})
        self.refused(twice[1:], ("program", "no"), "Missing", {"names": ("no",)})
        self.refused(twice[1:], ("program", "i"), "Missing", {"names": ("j",)})

    def test_drawn_lines(self):
        """The least of all closed lots."""
        seen = {}
        for seed in range(400):
            rng = random.Random(seed)
            line, goal = loose_line(rng, doubles=rng.choice((0, 0, 0.05)))
            told = plainlink.outcome(plainlots.needed, line, goal)
            self.assertEqual(raised(needed, line, goal), told)
            seen[told[0]] = seen.get(told[0], 0) + 1
            if told[0] == "told":
                for lot in plainlots.lots_of(plainlots.objects_of(line)):
                    if plainlots.is_closed(lot, line, goal):
                        self.assertLessEqual(set(told[1]), {o[1] for o in lot})
        self.assertGreater(min(seen[x] for x in ("told", "NotPlain", "Missing")), 20, seen)

    def test_lines_of_all_kinds(self):
        seen = {}
        for seed in range(300):
            rng = random.Random(seed)
            line, goal = one_line(rng, rng.choice((0.0, 0.2)), most=3), one_goal(rng)
            told = plainlink.outcome(plainlink.members, line, goal)
            held = raised(needed, line, goal)
            if held[0] != "NoLibrary" and told[0] == "told":
                self.assertEqual(held, plainlink.outcome(plainlots.needed, line, goal))
                seen[held[0]] = seen.get(held[0], 0) + 1
        self.assertGreater(seen["NotPlain"], 20)

    def test_one_lot(self):
        """HEART: in all orders only needed ones become members; Missing exactly if not all do; names lead alike."""
        seen = 0
        for seed in range(250):
            rng = random.Random(seed)
            line, goal = loose_line(rng)
            told = raised(needed, line, goal)
            if told[0] == "NotPlain":
                continue
            ways = {}
            for _ in range(12):
                items = list(line)
                rng.shuffle(items)
                items = tuple(items)
                names = sorted(o[1] for o in members(items, goal))
                named = raised(naming, items, goal)
                if told[0] == "Missing":
                    self.assertEqual(named[0], "Missing")
                    continue
                self.assertLessEqual(set(names), set(told[1]))
                self.assertEqual(named[0] == "Missing", names != list(told[1]))
                if named[0] == "told":
                    taken = named[1][2]
                    for m, o in enumerate(taken):
                        for x in sorted(plainlink.led(o)):
                            place = leads_to(named[1], m, x)
                            aim = taken[place[1]][1] if place[0] == "piece" else place
                            self.assertEqual(ways.setdefault((o[1], x), aim), aim)
                            seen += 1
        self.assertGreater(seen, 1000)


if __name__ == "__main__":
    unittest.main()
