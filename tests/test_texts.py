import random
import unittest

from onebase.errors import BadIndex, BadPiece, BadUnit
from onebase.texts import fault_rows, finished, read_unit, row_at, unit_text
from onebase.units import is_unit, unit_faults
from tests import plain
from tests.making import one_unit
from tests.support import WEIRD, code, near, piece, raised, unit

HAND = "unit a\nstart f\ncode f own\nset 0 2\nagain: show 0\nless 1 0\nif 1 again\nreturn"
FULL = "\n".join((
    "unit a", "spare s t", "start f f", "code f own", "set 0 63", "copy 1 2", "plus 3 0", "less 1 0", "ask 2",
    "show 3", "load 0 d 0", "store 1 r 63", "item 0 k 1", "fill 1 d 2", "take 1 g", "pick 0 t 3", "alike 0 1 0",
    "call g", "try g 0", "leap 1", "goto 17", "if 3 2", "fail 62", "stop", "return", "jump g",
    "data d open weak", "1 2 3", "4", "const k hidden", "0", "table tt own", "none g none", "g", "room r open 64",
    "code g hidden weak", "stop"))
BODY = (
    ("set", 0, 63), ("copy", 1, 2), ("plus", 3, 0), ("less", 1, 0), ("ask", 2), ("show", 3), ("load", 0, "d", 0),
    ("store", 1, "r", 63), ("item", 0, "k", 1), ("fill", 1, "d", 2), ("take", 1, "g"), ("pick", 0, "t", 3),
    ("alike", 0, 1, 0), ("call", "g"), ("try", "g", 0), ("leap", 1), ("goto", 17), ("if", 3, 2), ("fail", 62),
    ("stop",), ("return",), ("jump", "g"))
TOLD = unit(
    "a", code("f", *BODY, reach="own"), piece("d", "data", (1, 2, 3, 4), force="weak"),
    piece("k", "const", (0,), "hidden"), piece("tt", "table", (None, "g", None, "g"), "own"), piece("r", "room", 64),
    code("g", ("stop",), reach="hidden", force="weak"), spares=("s", "t"), starts=("f", "f"))


def at_of(text, f=read_unit):
    """The index of the first wrong row, None if there is none."""
    told, made = raised(f, text)
    assert told in ("told", "BadRows"), told
    return None if told == "told" else made["at"]


class ReadUnitTest(unittest.TestCase):
    def test_by_hand(self):
        self.assertEqual(read_unit(HAND), unit("a", code(
            "f", ("set", 0, 2), ("show", 0), ("less", 1, 0), ("if", 1, 1), ("return",), reach="own"), starts=("f",)))
        self.assertEqual(at_of("unit a\nstart f\nroom f own 1"), 2)
        self.assertEqual(read_unit(text=FULL), TOLD)

    def test_blanks_and_rows_without_words(self):
        wide = "\n\n   \n" + "\n \n".join("  " + r.replace(" ", "   ") + " " for r in FULL.split("\n")) + "\n\n"
        self.assertEqual(read_unit(wide), TOLD)

    def test_no_text(self):
        for thing in tuple(x for x in WEIRD if type(x) is not str) + (
                "\t", "unit a\r", "\u00e4", "\x7f", "unit a\x00", "\x1f", "unit\u2028a"):
            for f in (read_unit, finished, fault_rows, lambda x: row_at(x, "f", 0)):
                self.assertEqual(raised(f, thing), ("BadText", {}))
        self.assertEqual(at_of("!~"), 0)

    def test_missing_rows(self):
        for text in ("", "\n", "unit a", "unit a\n", "unit a\nspare s", "unit a\ncode f own", "unit a\ncode f own\nset 0 1",
                     "unit a\ncode f own\nif 0 x\nstop", "unit a\ncode f own\ngoto 1", "unit a\ndata d own",
                     "unit a\ntable t own", "unit a\nstart f\nroom r own 1", "unit a\ncode f own\nx: if 0 1\n"):
            self.assertEqual(at_of(text), len(text.split("\n")), text)
            self.assertIsNone(at_of(finished(text)))

    def test_wrong_rows(self):
        """Rows that a text may begin with, and a row that may not follow these."""
        code_ = "unit a\ncode f own\n"
        for ahead, rows in (
            ("", ("units a", "unit", "unit A", "unit open", "unit a b", "code f own", "spare s", "unit abcdefghi", "unit a:")),
            ("unit a", ("unit b", "spare", "spare t s", "spare s s", "spare s open", "start", "start open", "code", "code f",
                        "code f ow", "code f weak", "code f own weak", "code f open strong", "code open own", "room r open",
                        "room r open 0", "room r open 65", "room r open 01", "room r open 1 weak", "room r weak 1",
                        "set 0 0", "1", "x: stop", "data d hidden weak 1", "code f own open", "cells c own", "Code f own")),
            ("unit a\nspare s t", ("spare u", "start s", "code s own", "room t open 1", "start f t")),
            ("unit a\nstart f", ("spare s", "start g", "code f open", "code f hidden", "data f own", "room f own 1", "stop")),
            ("unit a\ncode f own", ("data d own", "room r own 1", "code g own", "spare s", "start f", "x:", "x: x: stop",
                                    "open: stop", "X: stop", "x : stop", "x:stop", ": stop", "1 2", "none")),
            (code_ + "set 0 1", ("data d own", "set 4 0", "set 0 64", "set 0", "set 0 0 0", "set 00 1", "set 0 01", "set -1 0",
                                 "set a 0", "set 0 a", "copy 0 4", "plus 4 0", "less 0 4", "ask 4", "show 4", "ask", "load 0 x 64",
                                 "load 4 x 0", "load 0 1 0", "load 0 x", "store 0 open 0", "item 0 x 4", "fill 4 x 0", "take 2 x",
                                 "pick 2 x 0", "pick 0 x 4", "alike 4 0 0", "alike 0 2 0", "alike 0 0 2", "call", "call 1",
                                 "call x y", "try x", "try x 40", "leap 2", "jump", "goto 40", "goto", "goto a b", "if 4 0",
                                 "if 0 40", "if 0 call", "return 0", "stop stop", "fail 63", "fail", "goto 100000000000000000000",
                                 "Set 0 0", "set\t0 0"[:3])),
            (code_ + "stop", ("code f own", "data f open", "spare s", "unit b")),
            (code_ + "x: stop", ("x: stop",)),
            (code_ + "goto x\nif 0 y", ("code g own",)),
            (code_ + "goto x\ny: stop", ("code g own", "data d own")),
            (code_ + "goto 2\nstop", ("code g own", "room r own 1")),
            ("unit a\ndata d own", ("64", "00", "a", "none", "0 1 64", "-1", "0 x", "stop", "code f own")),
            ("unit a\nconst d open weak\n" + " 1" * 63, ("1 1",)),
            ("unit a\nconst d open weak\n" + " 1" * 64, ("1",)),
            ("unit a\ntable t own\n" + " none" * 15, ("none a",)),
            ("unit a\ntable t own\n" + " a" * 16, ("none",)),
            ("unit a\ntable t own", ("0", "open", "a 1", "code f own", "A", "None")),
            ("unit a\nroom r own 1", ("1", "stop", "none", "spare s", "room r own 1")),
            ("unit a\nstart f\ntable t own", ("f", "none f", "g f")),
            ("unit a\nstart g\ncode f own", ("take 0 g", "x: take 1 g")),
        ):
            self.assertEqual(at_of(ahead, finished) if ahead else None, None, ahead)
            for r in rows:
                text = ahead + "\n" + r if ahead else r
                self.assertEqual(at_of(text), text.count("\n"), text)
                self.assertEqual(at_of(text, finished), text.count("\n"), text)
                # What comes behind a wrong row counts no more.
                self.assertEqual(at_of(text + "\nunit a\n!"), text.count("\n"), text)

    def test_no_room_for_what_is_asked(self):
        """Of 40 rows none is left for labels that are asked, or for an end."""
        head = "unit a\ncode f own\n"
        for rows, wrong in (
            (["show 0"] * 39 + ["stop"], None), (["show 0"] * 40, 39), (["show 0"] * 39 + ["stop", "stop"], 40),
            (["if 0 a"] + ["show 0"] * 38 + ["a: stop"], None), (["if 0 a"] + ["show 0"] * 38 + ["stop"], 39),
            (["show 0"] * 38 + ["if 0 a", "a: stop"], None), (["show 0"] * 39 + ["goto a"], 39),
            (["show 0"] * 37 + ["if 0 a", "if 0 b"], 38), (["show 0"] * 36 + ["if 0 a", "if 0 b", "a: stop", "b: stop"], None),
            (["show 0"] * 36 + ["if 0 a", "if 0 b", "stop"], 38), (["if 0 a"] * 39 + ["a: stop"], None),
            (["show 0"] * 39 + ["a: goto a"], None), (["if 0 39"] + ["show 0"] * 38 + ["stop"], None),
            (["if 0 " + x for x in "abcdefghijklmnopqrst"] + [x + ": stop" for x in "abcdefghijklmnopqrst"], None),
            (["if 0 " + x for x in "abcdefghijklmnopqrstu"], 20),
        ):
            at = at_of(head + "\n".join(rows))
            self.assertEqual(at, None if wrong is None else 2 + wrong, rows)
            if wrong is not None:
                self.assertIsNone(at_of(finished(head + "\n".join(rows[:wrong]))))
        self.assertEqual(at_of("unit a\ncode f own\ngoto 39" + "\nstop" * 38), 41)
        self.assertEqual(at_of("unit a\ncode f own\ngoto 39" + "\nstop" * 39), None)

    def test_no_room_for_pieces(self):
        names = ["p" + chr(97 + k) for k in range(25)]
        rooms = ["room " + x + " own 1" for x in names]
        self.assertIsNone(at_of("\n".join(["unit a"] + rooms[:24])))
        self.assertEqual(at_of("\n".join(["unit a"] + rooms)), 25)
        self.assertEqual(at_of("unit a\nstart " + " ".join(names[:24])), 2)
        self.assertEqual(at_of("unit a\nstart " + " ".join(names[:24] * 2)), 2)
        self.assertEqual(at_of("unit a\nstart " + " ".join(names)), 1)
        self.assertEqual(at_of("\n".join(["unit a", "start " + " ".join(names[:24]), "room r own 1"])), 2)
        self.assertEqual(at_of("\n".join(["unit a", "start za zb"] + rooms[:22] + ["code za own", "stop"])), 26)
        self.assertEqual(at_of("\n".join(["unit a", "start za zb"] + rooms[:23])), 24)
        text = finished("\n".join(["unit a", "start za zb"] + rooms[:22]))
        self.assertEqual(len(read_unit(text)[4]), 24)


class UnitTextTest(unittest.TestCase):
    def test_by_hand(self):
        rows = HAND.replace("again: ", "").replace("again", "1")
        self.assertEqual(unit_text(read_unit(HAND)), rows)
        full = FULL.replace("1 2 3\n4", "1 2 3 4").replace("none g none\ng", "none g none g")
        self.assertEqual(unit_text(unit=TOLD), full)

    def test_rows_of_numbers_and_items(self):
        for many in (1, 15, 16, 17, 32, 33, 64):
            rows = unit_text(unit("a", piece("d", "data", tuple(range(many))))).split("\n")
            self.assertEqual([len(r.split()) for r in rows[2:]], [16] * (many // 16) + [many % 16] * (many % 16 > 0))
        for many in (1, 7, 8, 9, 16):
            rows = unit_text(unit("a", piece("t", "table", (None, "x") * (many // 2) + (None,) * (many % 2)))).split("\n")
            self.assertEqual([len(r.split()) for r in rows[2:]], [8] * (many // 8) + [many % 8] * (many % 8 > 0))

    def test_made_up(self):
        for seed in range(300):
            u = one_unit(random.Random(seed), "u", 0.1)
            self.assertEqual(read_unit(unit_text(u)), u)
            self.assertNotIn("\n\n", unit_text(u))

    def test_bad_unit(self):
        for thing in WEIRD:
            with self.assertRaises(BadUnit):
                unit_text(thing)
        for other, _ in near(unit("a", code("f", ("if", 1, 1), ("stop",), reach="own"), starts=("f",))):
            if plain.is_unit(other):
                self.assertEqual(read_unit(unit_text(other)), other)
            else:
                with self.assertRaises(BadUnit):
                    unit_text(other)


class FinishedTest(unittest.TestCase):
    def test_by_hand(self):
        rows = HAND.split("\n")
        for many, more in ((8, 0), (7, 1), (6, 1), (5, 1), (4, 1), (3, 1), (2, 2), (1, 1)):
            self.check("\n".join(rows[:many]), more)
        self.check("", 2)
        self.check("\n \n", 2)

    def check(self, text, more):
        told = finished(text)
        self.assertTrue(is_unit(read_unit(told)), told)
        rows = text.split("\n")
        self.assertEqual(told.split("\n")[:len(rows)], rows)
        self.assertEqual(len([r for r in told.split("\n")[len(rows):] if r.strip()]), more, told)
        if not more:
            self.assertIsNone(at_of(text))

    def test_as_few_rows_as_can_be(self):
        head = "unit a\ncode f own\n"
        for text, more in (
            (FULL, 0), (FULL + "\n", 0), ("unit a\nspare a b c d", 1), ("unit a\nstart f g f", 4), ("unit a\nstart f\nroom r own 1", 2),
            ("unit a\nstart f g\ncode g own", 3), (head + "if 0 x\nif 0 y", 2), (head + "if 0 x\nif 0 5", 4), (head + "goto x", 1),
            (head + "goto 0", 0), (head + "goto 1", 1), (head + "goto 39", 39), (head + "x: if 0 x", 1), ("unit a\ndata d own", 1),
            ("unit a\ntable d own", 1), ("unit a\nroom d own 1\nconst c open weak", 1), ("unit a\n\nroom d own 1\n", 0),
            (head + "if 0 x\n" + "show 0\n" * 37 + "if 0 x", 1),
        ):
            self.check(text, more)

    def test_made_up(self):
        """Each beginning of a text can be finished; no wrong row is told ahead of where it is."""
        for seed in range(60):
            rng = random.Random(seed)
            rows = unit_text(one_unit(rng, "u", 0.1)).split("\n")
            for many in range(len(rows) + 1):
                text = "\n".join(rows[:many])
                told = finished(text)
                self.assertEqual(told.split("\n")[:max(many, 1)], rows[:many] or [""])
                read_unit(told)
                self.assertLessEqual(len(told.split("\n")), max(len(rows), 3))
            # With words exchanged the rows ahead of the wrong one can be finished, with it they cannot.
            at = rng.randrange(len(rows))
            words = rows[at].split()
            words[rng.randrange(len(words))] = rng.choice(("x", "open", "99", "code", "stop", "0", ""))
            rows[at] = " ".join(words)
            text = "\n".join(rows)
            wrong = at_of(text)
            if wrong is not None and wrong < len(rows):
                self.assertGreaterEqual(wrong, at)
                read_unit(finished("\n".join(rows[:wrong]))) if wrong else None
                self.assertEqual(at_of("\n".join(rows[:wrong + 1]), finished), wrong)


class RowsTest(unittest.TestCase):
    def test_row_at(self):
        text = "\n" + FULL.replace("code f own\n", "code f own\n\n")
        rows = text.split("\n")
        for x, sort in (("f", BODY), ("d", (1, 2, 3, 4)), ("k", (0,)), ("tt", (None, "g", None, "g")), ("g", (("stop",),))):
            for n, part in enumerate(sort):
                words = rows[row_at(text, x, n)].split()
                if x in ("f", "g"):
                    self.assertEqual(words, [str(w) for w in part])
                else:
                    self.assertIn("none" if part is None else str(part), words)
        self.assertEqual([row_at(text, "d", n) for n in range(4)], [rows.index("1 2 3")] * 3 + [rows.index("4")])
        for n in (0, 63):
            self.assertEqual(row_at(text=text, piece="r", n=n), rows.index("room r open 64"))

    def test_row_at_of_what_there_is_not(self):
        for x in WEIRD + ("a", "s", "t", "open", "fail"):
            for n in (0, 99, None):
                if not (type(x) is str and x in ("f", "d")):
                    with self.assertRaises(BadPiece):
                        row_at(FULL, x, n)
        for x, many in (("f", 22), ("d", 4), ("r", 64), ("g", 1)):
            for n in tuple(k for k in WEIRD if type(k) is not int) + (-1, many, many + 1):
                with self.assertRaises(BadIndex):
                    row_at(FULL, x, n)
            row_at(FULL, x, many - 1)
        self.assertEqual(raised(row_at, "unit a\nx", None, None), ("BadRows", {"at": 1}))

    def test_fault_rows(self):
        text = "unit a\nspare s\n\ncode f open\nx: load 0 d 1\n\nstore 0 f 0\nitem 0 s 0\nstop\ndata d own\n1\ntable t own\nf none\n\nd s"
        told = fault_rows(text)
        self.assertEqual([fault for _, fault in told], list(unit_faults(read_unit(text))))
        self.assertEqual(told, (
            (4, ("short", "d", "f", 0)), (7, ("spare", "s", "f", 2)), (14, ("sort", "d", "t", 2)), (14, ("spare", "s", "t", 3))))
        self.assertEqual(fault_rows(text=FULL), ((12 - 1, ("short", "r", "f", 7)),)[:0] + tuple(
            (row_at(FULL, f[2], f[3]), f) for f in unit_faults(TOLD)))
        self.assertEqual(raised(fault_rows, "unit a"), ("BadRows", {"at": 1}))

    def test_a_row_put_in_moves_labels_along(self):
        rows = HAND.replace("return", "if 0 end\nend: return").split("\n")
        body = read_unit("\n".join(rows))[4][0][5]
        for at in range(3, len(rows)):
            more = read_unit("\n".join(rows[:at] + ["ask 3"] + rows[at:]))[4][0][5]
            moved = [n + (n >= at - 3) for n in range(len(body))]
            for n, r in enumerate(body):
                if r[0] == "if":
                    self.assertEqual(more[moved[n]], (r[0], r[1], moved[r[2]]))


if __name__ == "__main__":
    unittest.main()
