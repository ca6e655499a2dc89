import random
import unittest

from onebase.deeds import after, is_deed
from onebase.lines import is_goal, is_line
from tests import plain
from tests.making import one_goal, one_line
from tests.support import WEIRD, archive, calls, check_judge, code, item, library, made, piece, raised

A = item(made("a", calls("f", "g")))
B = item(made("b", code("g")))
ROUND = ("round", (archive("x", B[1]), archive("y")))
MAIN = ("program", "f")
SMALL = item(made("s", code("f", ("show", 1), ("return",)), piece("t", "table", (None,), "own")))


@plain.judge
def valid(thing):
    plain.tuple_(thing, 2, 3)
    plain.word(thing[0], "put", "take", "exchange", "goal")
    plain.need(len(thing) == (3 if thing[0] in ("put", "exchange") else 2))
    if thing[0] == "goal":
        plain.goal_(thing[1])
    else:
        plain.number(thing[1], 0, 10 ** 99)
    if len(thing) == 3:
        plain.need(plain.is_line((thing[2],)))


class IsDeedTest(unittest.TestCase):
    def test_deeds(self):
        seen = check_judge(self, is_deed, valid, (
            ("put", 0, SMALL), ("take", 5), ("exchange", 10 ** 30, library("li", ("lo",), (("f", "code", 0),))),
            ("goal", MAIN), ("put", 2, ("round", (archive("x"), archive("y"))))))
        self.assertGreater(seen[True], 50)

    def test_some(self):
        for thing, right in (
            (("put", 0, A), True), (("put", -1, A), False), (("put", True, A), False), (("put", 0, A[1]), False),
            (("take", 0), True), (("take", 0, A), False), (("take", None), False), (("take", -1), False),
            (("exchange", 0), False), (("exchange", 0, ROUND), True), (("goal", ("library", "li")), True),
            (("goal", ("program", "open")), False), (("goal", 0, MAIN), False), (("undo",), False),
            (("put", 0, ("round", (archive("x"), archive("x")))), False),
            (("put", 0, ("round", (archive("x", B[1]), archive("y", B[1])))), False),
            # An object of a unit that is not sound.
            (("put", 0, item(made("u", calls("f", "d"), piece("d", "data", (1,), "own")))), False),
            # What a card needs is not asked of a line of this item alone.
            (("put", 0, library("li", ("lo",))), True),
        ):
            self.assertIs(is_deed(thing=thing), right, thing)


class AfterTest(unittest.TestCase):
    def test_deeds(self):
        line = (A, B)
        for deed, told in (
            (("put", 2, SMALL), (A, B, SMALL)), (("put", 0, SMALL), (SMALL, A, B)), (("put", 1, SMALL), (A, SMALL, B)),
            (("take", 0), (B,)), (("take", 1), (A,)), (("exchange", 0, SMALL), (SMALL, B)),
            (("exchange", 1, SMALL), (A, SMALL)), (("exchange", 0, A), (A, B)), (("exchange", 1, ROUND), (A, ROUND)),
        ):
            self.assertEqual(after(line, MAIN, deed), (told, MAIN))
        self.assertEqual(after(line=line, goal=MAIN, deed=("goal", ("library", "li"))), (line, ("library", "li")))
        self.assertEqual(after((), MAIN, ("put", 0, A)), ((A,), MAIN))

    def test_bad_deeds(self):
        line = (A, library("lo"), library("li", ("lo",)))
        for deed in WEIRD + (
            ("put", 4, SMALL), ("take", 3), ("exchange", 3, SMALL), ("take", -1), ("put", 0, A), ("put", 3, A),
            ("exchange", 1, A), ("take", 1), ("exchange", 1, B), ("put", 0, library("lo")), ("goal", ("library", "lo")),
            ("put", 0, library("lx", ("ly",))), ("exchange", 2, library("lx", ("ly",))), ["take", 0], ("goal", None),
            ("put", 0, archive("x", A[1])), ("exchange", 2, library("lo")),
        ):
            self.assertEqual(raised(after, line, MAIN, deed), ("BadDeed", {}))
        self.assertEqual(after(line, MAIN, ("take", 2))[0], line[:2])
        self.assertEqual(raised(after, line, ("library", "lz"), ("put", 0, library("lz"))), ("BadDeed", {}))
        self.assertEqual(raised(after, (), MAIN, ("take", 0)), ("BadDeed", {}))
        self.assertEqual(raised(after, (archive("x"),), MAIN, ("put", 1, archive("x"))), ("BadDeed", {}))

    def test_errors_ahead(self):
        for deed in (None, ("take", 9), ("take", 0)):
            self.assertEqual(raised(after, [A], None, deed), ("BadLine", {}))
            self.assertEqual(raised(after, (A,), None, deed), ("BadGoal", {}))
            self.assertEqual(raised(after, (A, library("li", ("lo", "lx"))), MAIN, deed), ("NoLibrary", {"name": "lo"}))
        self.assertEqual(raised(after, (library("lz"),), ("library", "lz"), None), ("BadGoal", {}))

    def test_made_up(self):
        for seed in range(300):
            rng = random.Random(seed)
            line, goal = one_line(rng), one_goal(rng)
            other = rng.choice(one_line(rng))
            n = rng.randrange(len(line) + 2)
            deed = rng.choice((("put", n, other), ("take", n), ("exchange", n, other), ("goal", one_goal(rng))))
            held = list(line)
            if deed[0] == "put":
                held.insert(n, other)
            elif deed[0] == "take":
                held[n:n + 1] = []
            elif deed[0] == "exchange":
                held[n:n + 1] = [other]
            held = tuple(held)
            wanted = deed[1] if deed[0] == "goal" else goal
            right = n < len(line) + (deed[0] == "put") or deed[0] == "goal"
            cards = [i[1] for i in held if i[0] == "library"]
            names = [c[1] for c in cards]
            right = right and is_line(held) and is_goal(wanted) and all(x in names for c in cards for x in c[2])
            cards = [i[1] for i in line if i[0] == "library"]
            if all(x in [c[1] for c in cards] for c in cards for x in c[2]):
                told = raised(after, line, goal, deed)
                self.assertEqual(told, ("told", (held, wanted)) if right else ("BadDeed", {}))


if __name__ == "__main__":
    unittest.main()
