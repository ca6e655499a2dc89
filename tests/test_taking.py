import random
import unittest

from onebase.naming import naming
from onebase.taking import members
from tests import plainlink
from tests.making import one_goal, one_line, whole_line
from tests.support import archive, calls, card, code, item, library, made, piece, raised

U = made("u", calls("main", "f"))
P = made("p", calls("f", "g"))
R = made("r", calls("g", "h"))
Q = made("q", code("h"))
MAIN = ("program", "main")


def names(line, goal=MAIN):
    told = members(line, goal)
    assert type(told) is tuple
    return [o[1] for o in told]


class TakingTest(unittest.TestCase):
    def test_example(self):
        line = (item(U), archive("one", P, Q), archive("two", R))
        self.assertEqual(members(line, MAIN), (U, P, R))
        self.assertEqual(raised(naming, line, MAIN), ("Missing", {"names": ("h",)}))
        both = ("round", (archive("one", P, Q), archive("two", R)))
        self.assertEqual(members(line=(item(U), both), goal=MAIN), (U, P, R, Q))
        line = (item(U), archive("one", P), archive("three", Q), archive("two", R))
        self.assertEqual(names((line[0], line[1], line[3], line[2])), ["u", "p", "r", "q"])

    def test_empty(self):
        for line in ((), (archive("one"),), (("round", ()),), (("round", (archive("one"), archive("two"))),),
                     (library("li"),)):
            for goal in (MAIN, ("library", "lo")):
                self.assertEqual(members(line, goal), ())

    def test_objects_always_come(self):
        self.assertEqual(names((item(Q), item(R), item(U))), ["q", "r", "u"])

    def test_entry_is_open(self):
        other = made("o", code("main"))
        self.assertEqual(names((archive("one", P, U, other),)), ["u", "p"])
        self.assertEqual(names((archive("one", P, U, other),), ("library", "lo")), [])
        self.assertEqual(names((item(other), archive("one", U))), ["o"])
        # Cards do not define the entry, neither does what is on the right.
        self.assertEqual(names((library("li", (), (("main", "code", 0),)), archive("one", U))), ["u"])
        self.assertEqual(names((archive("one", U), item(other))), ["u", "o"])

    def test_archives_again_and_again(self):
        a = made("a", calls("fa", "fc"))
        b = made("b", calls("fb", "fa"))
        c = made("c", code("fc"))
        d = made("d", calls("fd"))
        top = made("t", calls("main", "fb"))
        # b first; then, from the left again, a; then c; never d.
        self.assertEqual(names((item(top), archive("one", a, d, c, b))), ["t", "b", "a", "c"])
        self.assertEqual(names((item(top), archive("one", c, b, a))), ["t", "b", "a", "c"])
        # The first that gives, not the first name that is open.
        both = made("x", calls("main", "fa", "fb"))
        self.assertEqual(names((item(both), archive("one", b, a, c))), ["x", "b", "a", "c"])

    def test_archives_are_passed_once(self):
        self.assertEqual(names((archive("one", P), item(U))), ["u"])
        self.assertEqual(names((item(U), archive("one", R), archive("two", P))), ["u", "p"])

    def test_rounds_turn_by_turn(self):
        top = made("t", calls("main", "fa", "fb"))
        a = made("a", calls("fa", "fc"))
        b = made("b", calls("fb", "fd"))
        c = made("c", code("fc"))
        d = made("d", calls("fd", "fe"))
        e = made("e", code("fe"))
        # Each archive is gone through whole before the next one.
        line = (item(top), ("round", (archive("one", a, d), archive("two", e, c, b))))
        self.assertEqual(names(line), ["t", "a", "c", "b", "d", "e"])
        line = (item(top), ("round", (archive("two", e, c, b), archive("one", a, d))))
        self.assertEqual(names(line), ["t", "b", "a", "d", "e", "c"])
        line = (item(top), archive("two", e, c, b), archive("one", a, d))
        self.assertEqual(names(line), ["t", "b", "a", "d"])

    def test_weak_pieces_bring_nothing(self):
        weak = made("w", code("f", force="weak"), code("z"))
        strong = made("s", code("f"))
        self.assertEqual(names((item(U), archive("one", weak, strong))), ["u", "s"])
        self.assertEqual(names((item(U), archive("one", weak))), ["u"])
        # But once in they define.
        other = made("o", calls("main", "z", "f"))
        self.assertEqual(names((item(other), archive("one", weak), archive("two", strong))), ["o", "w"])

    def test_rooms_give(self):
        asks = made("o", code("main", ("load", 0, "f", 0), ("return",)))
        self.assertEqual(names((item(asks), archive("one", made("r", piece("f", "room", 3))))), ["o", "r"])

    def test_hidden_pieces_give_own_ones_do_not(self):
        hidden = made("h", code("f", reach="hidden"))
        own = made("o", code("f", reach="own"))
        self.assertEqual(names((item(U), archive("one", own, hidden))), ["u", "h"])
        self.assertEqual(names((item(U), item(own), archive("one", hidden))), ["u", "o", "h"])

    def test_own_pieces_hide_names(self):
        hides = made("o", calls("main", "f"), code("f", reach="own"))
        self.assertEqual(names((item(hides), archive("one", P))), ["o"])

    def test_spares_open_nothing(self):
        spare = made("o", calls("main", "f"), spares=("f",))
        self.assertEqual(names((item(spare), archive("one", P))), ["o"])
        self.assertEqual(names((item(spare), item(made("v", calls("x", "f"))), archive("one", P))), ["o", "v", "p"])

    def test_cards_left_and_right(self):
        has_f = library("li", (), (("f", "data", 3),))
        self.assertEqual(names((item(U), has_f, archive("one", P))), ["u"])
        self.assertEqual(names((has_f, item(U), archive("one", P))), ["u"])
        self.assertEqual(names((item(U), archive("one", P), has_f)), ["u", "p"])
        wants_f = ("library", card("li", (), (), (("f", "code", 0, False),)))
        self.assertEqual(names((wants_f, item(U), archive("one", P))), ["u", "p"])
        self.assertEqual(names((wants_f, archive("one", P)), ("library", "lo")), [])

    def test_pieces_that_lose_lead_too(self):
        # The weak main of o is not chosen, and what it calls is wanted all the same.
        loses = made("o", calls("main", "f", force="weak"))
        self.assertEqual(names((item(loses), item(made("v", code("main"))), archive("one", P))), ["o", "v", "p"])

    def test_takes_pieces_of_all_sorts(self):
        table = made("t", piece("f", "table", ("g",)))
        asks = made("o", code("main", ("pick", 0, "f", 0), ("return",)))
        self.assertEqual(names((item(asks), archive("one", table, R))), ["o", "t", "r"])
        # Members come by names alone, whatever they are asked for.
        self.assertEqual(names((item(U), archive("one", table))), ["u", "t"])

    def test_made_up(self):
        long = 0
        for seed in range(500):
            rng = random.Random(seed)
            goal = one_goal(rng)
            line = one_line(rng, most=8, weak=0.2) if seed % 2 else whole_line(rng, goal)
            told = raised(members, line, goal)
            if told[0] == "told":
                self.assertEqual(told[1], plainlink.members(line, goal))
                long += len(told[1]) > 2
        self.assertGreater(long, 100)


if __name__ == "__main__":
    unittest.main()
