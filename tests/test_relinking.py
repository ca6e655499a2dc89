import random
import time
import unittest

from onebase.deeds import after
from onebase.files import file_of, read_file
from onebase.images import linked
from onebase.keeping import kept
from onebase.naming import naming
from onebase.objects import assembled
from onebase.parting import classes
from onebase.patches import patch, patched
from onebase.relinking import Relinker, touched
from onebase.webs import web_of
from tests import plainlink
from tests.making import one_goal, one_unit, whole_line
from tests.support import WEIRD, archive, calls, code, item, library, made, piece, raised
from tests.test_plainlines import MAIN, P, Q, R, U

LIB = ("library", "lz")
MAIN_UNIT = item(made("u", calls("main", "f")))
F = item(made("v", code("f", ("show", 0), ("return",))))
LOUD = item(made("v", code("f", ("show", 1), ("show", 1), ("return",))))
G = item(made("w", code("g", ("show", 0), ("return",))))


def one_deed(rng, line, goal, often=0.1):
    """A deed that is let, most of the time."""
    many = len(line)
    at = rng.randrange(many + 1) if rng.random() > often else rng.choice((-1, many + 1, many))
    more = rng.choice([F, LOUD, G, MAIN_UNIT, archive("ar", Q, R), library("li"), ("round", (archive("ba", P),)), ("object", None),
                       item(assembled(one_unit(rng, rng.choice(("ua", "ub", "uz"))))), *line[:2]])
    return rng.choice((("put", at, more), ("put", at, more), ("take", at), ("exchange", at, more), ("exchange", at, more), ("goal", one_goal(rng)), ("goal", goal),
                       ("goal", LIB), ("goal", ("program", "f"))))


class RelinkerTest(unittest.TestCase):
    def test_by_hand(self):
        held = Relinker(line=(MAIN_UNIT,), goal=MAIN)
        self.assertEqual((held.line(), held.goal()), ((MAIN_UNIT,), MAIN))
        self.assertEqual(raised(held.image), ("Missing", {"names": ("f",)}))
        self.assertIs(held.undo(), False)
        self.assertIsNone(held.do(deed=("put", 1, F)))
        self.assertEqual(held.line(), (MAIN_UNIT, F))
        first = linked((MAIN_UNIT, F), MAIN)
        self.assertEqual(held.image(), first)
        old, told = held.release()
        self.assertEqual((old, patched((), told)), ((), file_of(first)))
        held.do(("exchange", 1, LOUD))
        second = linked((MAIN_UNIT, LOUD), MAIN)
        self.assertEqual(held.image(), second)
        old, told = held.release()
        self.assertEqual((old, patched(old, told)), (file_of(first), file_of(second)))
        self.assertEqual(len(told), len(patch(file_of(first), file_of(second))))
        # Undo takes no release back.
        self.assertIs(held.undo(), True)
        self.assertEqual(held.image(), first)
        self.assertEqual(held.release(), (file_of(second), patch(file_of(second), file_of(first))))
        self.assertEqual(held.release()[0], file_of(first))
        held.do(("goal", LIB))
        self.assertEqual((held.goal(), held.image()[1]), (LIB, "lz"))
        self.assertEqual([held.undo() for _ in range(3)], [True, True, False])
        self.assertEqual((held.line(), held.goal()), ((MAIN_UNIT,), MAIN))

    def test_deeds_and_undos(self):
        """HEART: behind any deeds and undos image is that of the whole line anew, or raises the same."""
        seen = {"done": 0, "BadDeed": 0, "undone": 0, "image": 0, "no image": 0, "released": 0}
        for seed in range(150):
            rng = random.Random(seed)
            goal = one_goal(rng)
            line = whole_line(rng, goal)
            if raised(Relinker, line, goal)[0] != "told":
                self.assertEqual(raised(Relinker, line, goal), raised(linked, line, goal))
                continue
            held = Relinker(line, goal)
            stack, file, followed = [], (), ()
            for _ in range(14):
                way = rng.random()
                if way < 0.55:
                    deed = one_deed(rng, line, goal)
                    told = raised(held.do, deed)
                    behind = raised(after, line, goal, deed)
                    if behind[0] == "told":
                        self.assertEqual(told, ("told", None))
                        stack.append((line, goal))
                        line, goal = behind[1]
                        seen["done"] += 1
                    else:
                        self.assertEqual(told, ("BadDeed", {}))
                        seen["BadDeed"] += 1
                elif way < 0.75:
                    self.assertIs(held.undo(), bool(stack))
                    if stack:
                        line, goal = stack.pop()
                        seen["undone"] += 1
                else:
                    due = raised(linked, line, goal)
                    told = raised(held.release)
                    if due[0] == "told":
                        self.assertEqual(told[1][0], file)
                        followed = patched(followed, told[1][1])
                        file = file_of(due[1])
                        self.assertEqual(followed, file)
                        self.assertEqual(read_file(followed), due[1])
                        seen["released"] += 1
                    else:
                        self.assertEqual(told, due)
                self.assertEqual((held.line(), held.goal()), (line, goal))
                told = raised(held.image)
                self.assertEqual(told, raised(linked, line, goal))
                seen["image" if told[0] == "told" else "no image"] += 1
        self.assertGreater(min(seen.values()), 80, seen)

    def test_errors_change_nothing(self):
        held = Relinker((MAIN_UNIT, F), MAIN)
        held.release()
        file = file_of(held.image())
        for deed in WEIRD + (("put", 3, G), ("take", 2), ("put", 0, F), ("goal", ("library", "call")), ("put", 0, library("li", ("lo",))), ("take", True)):
            self.assertEqual(raised(held.do, deed), ("BadDeed", {}))
        held.do(("take", 1))
        self.assertEqual(raised(held.release), ("Missing", {"names": ("f",)}))
        self.assertEqual(raised(held.do, ("take", 1)), ("BadDeed", {}))
        self.assertEqual(held.line(), (MAIN_UNIT,))
        self.assertIs(held.undo(), True)
        self.assertIs(held.undo(), False)
        self.assertEqual(held.release()[0], file)

    def test_wrong_inputs(self):
        for thing in WEIRD + ([F], (F, F), (F, ("object", 1))):
            if not (type(thing) is tuple and len(thing) == 0):
                self.assertEqual(raised(Relinker, thing, None), ("BadLine", {}))
            self.assertEqual(raised(Relinker, (F, library("li", ("lo",))), thing), ("BadGoal", {}))
        self.assertEqual(raised(Relinker, (library("lz", ("lo",)),), LIB), ("BadGoal", {}))
        self.assertEqual(raised(Relinker, (library("li", ("lo",)),), LIB), ("NoLibrary", {"name": "lo"}))
        # What naming raises is told by image alone.
        self.assertEqual(raised(Relinker, (MAIN_UNIT,), MAIN)[0], "told")

    def test_two_go_by_themselves(self):
        one, other = Relinker((MAIN_UNIT, F), MAIN), Relinker((MAIN_UNIT, F), MAIN)
        one.do(("goal", LIB))
        one.release()
        self.assertEqual((other.goal(), other.undo(), other.release()[0]), (MAIN, False, ()))


def told_knots(line, goal):
    """By (unit, piece): sort, body by names, and by names where they lead."""
    named, web = naming(line, goal), web_of(line, goal)
    units = [o[1] for o in named[2]]
    spot = [(units[k[1][0]], k[1][1]) for k in web[3]]
    found = {}
    for k, (_, (m, x), sort, body) in enumerate(web[3]):
        mine = [p for p in plainlink.pieces_of(named[2][m]) if p[1] == x][0]
        aims = {}
        for (_, _, name, _), (_, _, lead, _) in zip(plainlink.plain.uses_of(sort, mine[5]), plainlink.plain.uses_of(sort, body)):
            aims[name] = "slot" if type(lead) is str else spot[lead] + (web[3][lead][2],)
        found[spot[k]] = (sort, mine[5], aims)
    return found, spot, web


def plain_touched(line, goal, deed):
    """The second reading: again and again, until no more is touched."""
    old = told_knots(line, goal)[0]
    new, spot, web = told_knots(*after(line, goal, deed))
    found = {x for x in new if x not in old or old[x][:2] != new[x][:2] or old[x][2] != new[x][2]}
    while True:
        more = {spot[k] for k in range(len(spot)) if any(spot[x] in found for x in plainlink.steps(web, k).values())}
        if more <= found:
            return tuple(sorted(found))
        found |= more


class TouchedTest(unittest.TestCase):
    def test_by_hand(self):
        line = (MAIN_UNIT, F, G)
        for deed, told in (
                (("take", 2), ()), (("put", 0, ("round", ())), ()), (("exchange", 1, F), ()), (("exchange", 1, LOUD), (("u", "main"), ("v", "f"))),
                (("goal", ("program", "f")), ()), (("put", 3, item(made("x", calls("k", "main")))), (("x", "k"),)),
                # In a library what is open is led to by slot.
                (("goal", LIB), (("u", "main"),)),
                # The same piece in another unit is another one.
                (("exchange", 1, item(made("y", code("f", ("show", 0), ("return",))))), (("u", "main"), ("y", "f"))),
                (("exchange", 2, item(made("w", code("g", ("show", 0), ("return",), reach="hidden")))), ())):
            self.assertEqual(touched(line, MAIN, deed), told, deed)
            self.assertEqual(plain_touched(line, MAIN, deed), told)
        self.assertEqual(touched(line=line, goal=MAIN, deed=("take", 2)), ())

    def test_steps_alone_go_on(self):
        """Calls, picks and reads of consts touch whoever steps there; takes, items, data and slots do not."""
        def unit(f, const, data, table):
            return item(made("v", f, piece("k", "const", const), piece("d", "data", data), piece("t", "table", table)))

        e = ("return",)
        plain_f, other_f = code("f", ("show", 0), e), code("f", ("show", 1), e)
        user = item(made("u", code("a", ("call", "f"), e), code("b", ("try", "f", 0), e), code("c", ("jump", "f")), code("g", ("take", 0, "f"), e),
                         code("h", ("load", 0, "k", 0), e), code("i", ("item", 0, "k", 0), e), code("j", ("load", 0, "d", 0), e), code(
                             "l", ("store", 0, "d", 0), e), code("m", ("pick", 0, "t", 0), e), code("n", ("call", "a"), e), code("o", ("goto", 0)),
                         piece("p", "table", ("f", "a"))))
        line = (user, unit(plain_f, (1,), (1,), ("f",)))
        goal = ("program", "a")
        for other, told in (
                (unit(other_f, (1,), (1,), ("f",)), [("u", x) for x in "abcn"] + [("v", "f")]), (unit(plain_f, (2,), (1,), ("f",)), [("u", "h"), ("u", "i"), ("v", "k")]),
                (unit(plain_f, (1,), (2,), ("f",)), [("v", "d")]), (unit(plain_f, (1,), (1,), (None,)), [("u", "m"), ("v", "t")])):
            self.assertEqual(touched(line, goal, ("exchange", 1, other)), tuple(told))
            self.assertEqual(plain_touched(line, goal, ("exchange", 1, other)), tuple(told))
        # Data where a const was: what reads it is touched, as it leads to another sort; so it is the other way.
        const = item(made("x", piece("k", "const", (1,))))
        data = item(made("x", piece("k", "data", (1,))))
        line = (item(made("u", code("a", ("load", 0, "k", 0), e))), const)
        self.assertEqual(raised(touched, line, goal, ("exchange", 1, data)), ("told", (("u", "a"), ("x", "k"))))
        self.assertEqual(touched((line[0], data), goal, ("exchange", 1, const)), (("u", "a"), ("x", "k")))
        # By slot where it was not: a card has it now.
        line = (item(made("u", calls("a", "f"), spares=("f",))), F)
        card = library("li", (), (("f", "code", 0),))
        self.assertEqual(touched(line, goal, ("exchange", 1, card)), (("u", "a"),))
        self.assertEqual(touched((line[0], card), goal, ("exchange", 1, F)), (("u", "a"), ("v", "f")))
        # From one card to another, or to none, it is by slot all the same.
        self.assertEqual(touched((line[0], card), goal, ("exchange", 1, library("lo", (), (("f", "code", 0),)))), ())
        self.assertEqual(touched((line[0], card), goal, ("take", 1)), ())

    def test_drawn_deeds(self):
        """By the second reading; HEART: two untouched knots, kept in both webs, are alike in the new exactly if they were in the old."""
        seen = {"touched": 0, "untouched": 0, "alike": 0, "unlike": 0}
        for seed in range(1000):
            rng = random.Random(seed)
            goal = one_goal(rng)
            line = whole_line(rng, goal)
            deed = one_deed(rng, line, goal, 0)
            told = raised(touched, line, goal, deed)
            behind = raised(after, line, goal, deed)
            due = behind if behind[0] != "told" else raised(naming, line, goal)
            if due[0] == "told":
                due = raised(naming, *behind[1])
            if due[0] != "told":
                self.assertEqual(told, due)
                continue
            self.assertEqual(told, ("told", plain_touched(line, goal, deed)))
            old, old_spot, old_web = told_knots(line, goal)
            new, spot, web = told_knots(*behind[1])
            lots = ({old_spot[k]: at for at, lot in enumerate(classes(old_web)) for k in lot}, {spot[k]: at for at, lot in enumerate(classes(web)) for k in lot})
            both = [x for x in spot if x not in told[1] and x in lots[0] and x in lots[1]]
            self.assertLessEqual(set(x for x in spot if x not in told[1]), set(old))
            self.assertEqual(len(lots[1]), len(kept(web)))
            for one in both:
                for other in both:
                    alike = lots[1][one] == lots[1][other]
                    self.assertEqual(alike, lots[0][one] == lots[0][other])
                    seen["alike" if alike else "unlike"] += one != other
            seen["touched"] += len(told[1])
            seen["untouched"] += len(spot) - len(told[1])
        self.assertGreater(min(seen.values()), 100, seen)

    def test_errors_in_order(self):
        """Those of after, of naming as it is, then behind the deed."""
        bad = (MAIN_UNIT, G)
        for line, goal, deed, told in (
                (list(bad), None, None, ("BadLine", {})), (bad, None, None, ("BadGoal", {})), (bad + (library("li", ("lo",)),), MAIN, None, ("NoLibrary", {"name": "lo"})),
                (bad, MAIN, None, ("BadDeed", {})), (bad, MAIN, ("take", 2), ("BadDeed", {})), (bad, MAIN, ("put", 0, F), ("Missing", {"names": ("f",)})),
                ((U, item(P)), MAIN, None, ("BadLine", {})), ((item(U), item(P), item(R), item(Q)), MAIN, ("take", 3), ("Missing", {"names": ("h",)})),
                ((MAIN_UNIT, F), MAIN, ("goal", ("program", "k")), ("Missing", {"names": ("k",)})),
                ((MAIN_UNIT, F), MAIN, ("put", 0, item(made("w", code("f")))), ("TwoStrong", {"name": "f"}))):
            self.assertEqual(raised(touched, line, goal, deed), told)
        for deed in WEIRD:
            self.assertEqual(raised(touched, (MAIN_UNIT, F), MAIN, deed), ("BadDeed", {}))

    def test_many_calls_end(self):
        began = time.process_time()
        for seed in range(400):
            rng = random.Random(seed)
            goal = one_goal(rng)
            line = whole_line(rng, goal)
            raised(touched, line, goal, one_deed(rng, line, goal))
            if raised(Relinker, line, goal)[0] == "told":
                held = Relinker(line, goal)
                for _ in range(5):
                    raised(held.do, one_deed(rng, held.line(), held.goal()))
                    raised(held.release)
        self.assertLess(time.process_time() - began, 20)


if __name__ == "__main__":
    unittest.main()
