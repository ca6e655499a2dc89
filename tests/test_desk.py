import random
import unittest

from onebase.desk import Desk
from onebase.errors import LinkError
from onebase.images import linked
from onebase.keeping import kept
from onebase.listings import listing
from onebase.machine import run_images
from onebase.playing import run_world
from onebase.taking import members
from onebase.texts import unit_text
from onebase.webs import web_of
from tests import plain, plainlink, plainrun, worlds
from tests.making import one_unit
from tests.support import WEIRD
from tests.worlds import card_for

U = "unit u\ncode main open\ncall get\nshow 0\nreturn\ncode get own\nload 0 pair 1\nreturn\nconst pair own\n5 7"
V = "unit v\ncode f open\nshow 1\nreturn"
W = "unit w\ncode g open\ncall f\nreturn"
MAIN = "unit m\ncode main open\ncall f\nreturn"


def desk(*said):
    """A desk that was told all this, each of which it takes."""
    held = Desk()
    for line in said:
        answer = held.say(line)
        assert answer == "ok", (line, answer)
    return held


class Case(unittest.TestCase):
    def told(self, held, *pairs):
        for line, answer in zip(pairs[::2], pairs[1::2]):
            self.assertEqual(held.say(line), answer, line)


class FormTest(Case):
    def test_any_value(self):
        held = Desk()
        for thing in WEIRD:
            self.assertEqual(held.say(thing), "what")
        self.assertEqual(held.say(line="shelf"), "none")

    def test_what(self):
        held = desk(U, V, "archive ar v", "program main")
        for line in (
                "", " ", "\n", "shelf ", " shelf", "shelf  ", "shelf u", "Shelf", "shelf\n", "\nshelf", "text", "text u v", "text  u",
                "text call", "text U", "text abcdefghi", "asks", "asks f g", "asks unit", "members u", "kept u", "size 1", "lots 1",
                "cells 1", "listing u", "run 3", "machine 3", "archive", "archive ar", "archive a call", "archive call v",
                "archive ar  v", "archive ar v ", "line  u", "line u ", "line round", "line over", "line round over",
                "line round ar", "line over ar", "line u over", "line round round ar over over", "line round ar over over",
                "line round ar round over", "line round round ar over", "line round ar round ar over", "line unit", "line U", "line u\n", "library", "library a b", "library call",
                "program", "program a b", "program if", "program 3", "drop", "drop u v", "drop take", "give", "give 64", "give 07",
                "give 00", "give -1", "give 1 2", "give a", "give +1", "give 1.", "take", "take u", "take back back", "takeback",
                "back", "undo 1", "redo 1", "undo redo", "unit", "unit u", "unit u ", "units u\ncode f own\nstop", "goto 3",
                "u", "code f open\nstop", "\nunit x\ncode f open\nstop", "shelf\nshelf", "line\n", "text u\ntext v", "give 3\n",
                "unit\tx\nstop", "unit x\r\nstop", "caf\u00e9", "shelf\u00a0", "unit x\ncode f open\nst\u00f6p", "what"):
            self.assertEqual(held.say(line), "what", line)
        self.told(held, "shelf", "ar u v", "take back", "error BadInputs", "line", "ok", "undo", "ok")

    def test_texts_of_units(self):
        held = Desk()
        for line, answer in (
                ("unit x\n", "error BadRows 2"), ("unit x\n\n", "error BadRows 3"), (" unit x\ncode f open\nstop", "ok"),
                ("unit  x\ncode f open\n stop \n\n", "ok"), ("unit\ncode f open\nstop", "error BadRows 0"),
                ("unit x y\ncode f open\nstop", "error BadRows 0"), ("unit call\nstop", "error BadRows 0"),
                ("unit x\ncode f open\nshow 4\nstop", "error BadRows 2"), ("unit x\ncode f open\nshow 3", "error BadRows 3"),
                ("unit unit\ncode f open\nstop", "error BadRows 0")):
            self.assertEqual(held.say(line), answer, line)
        self.told(held, "shelf", "x", "text x", "unit x\ncode f open\nstop", "undo", "ok", "undo", "ok", "undo", "error NothingDone")


class DeedTest(Case):
    def test_units(self):
        held = desk(U, V)
        self.told(held, "text u", U, "text v", V, "text x", "error NoSuch", "shelf", "u v")
        other = "unit v\nroom r open 3"
        self.told(held, other, "ok", "text v", other, "shelf", "u v", "undo", "ok", "text v", V, "redo", "ok", "text v", other)
        held = desk(U, "archive ar u", "library li")
        self.told(held, "unit ar\ncode f open\nstop", "error NameTaken", "unit li\ncode f open\nstop", "error NameTaken",
                  # What is wrong with the text is told first.
                  "unit ar\ncode f open", "error BadRows 2", "shelf", "ar li u", "text ar", "error NoSuch", "text li", "error NoSuch")

    def test_archives(self):
        held = desk(U, V, "library li")
        self.told(held, "archive ar u v", "ok", "archive ar v", "ok", "archive br ar", "error NoSuch", "archive br u x", "error NoSuch",
                  "archive br li", "error NoSuch", "archive u v", "error NameTaken", "archive li v", "error NameTaken",
                  # NoSuch ahead of NameTaken.
                  "archive u x", "error NoSuch", "archive x x", "error NoSuch", "archive u u", "error NameTaken", "shelf", "ar li u v")
        # It names the units, whatever they become.
        held = desk(MAIN, V, "archive ar v", "line m ar", "program main")
        self.told(held, "machine", "shown 0 stopped", "unit v\ncode f open\nset 1 6\nshow 1\nreturn", "ok", "members", "m v",
                  "machine", "shown 6 stopped", "run", "shown 6 stopped")

    def test_lines(self):
        held = desk(U, V, W, "archive ar v", "archive br w", "library li")
        self.told(held, "line", "ok", "line u", "ok", "line u ar li", "ok", "line u round ar br over li", "ok", "line round ar over", "ok",
                  "line round ar over u round br over", "ok", "line u u", "ok", "line x", "error NoSuch", "line u round u over",
                  "error NoSuch", "line round ar li over", "error NoSuch", "line round x over", "error NoSuch", "line u x u", "error NoSuch")
        # What the line tells twice is no line.
        self.told(held, "program main", "ok", "members", "error BadLine", "line li li u", "ok", "size", "error BadLine", "line ar ar u", "ok",
                  "run", "error BadWorld", "kept", "error BadLine")

    def test_rounds(self):
        m = "unit m\ncode main open\ncall f\nreturn"
        p = "unit p\ncode f open\ncall g\nreturn"
        r = "unit r\ncode g open\ncall h\nreturn"
        q = "unit q\ncode h open\nreturn"
        held = desk(m, p, q, r, "archive one p q", "archive two r", "line m one two", "program main")
        self.told(held, "members", "m p r", "kept", "error Missing h", "line m round one two over", "ok", "members", "m p r q",
                  "kept", "m.main p.f r.g q.h", "machine", "stopped", "run", "stopped")
        # By names, too, only members run; what no member wants is left out.
        held = desk(m, p, r, "unit q\ncode h open\nshow 0\nfail 7", "unit t\nstart t\ncode t own\nstop",
                    "archive one p q", "archive two t r", "line m round one two over", "program main")
        self.told(held, "run", "shown 0 fails 7\n- q h 1\n- r g 0\n- p f 0\n- m main 0", "members", "m p r q")

    def test_libraries(self):
        held = desk(U, V, W, "line v", "library li")
        self.told(held, "shelf", "li u v w", "library u", "error NameTaken", "line u li", "ok",
                  # The line has its card: the goal is none.
                  "library li", "error BadGoal", "line w", "ok", "library lo", "error Missing f", "shelf", "li u v w", "line w li", "ok",
                  "library lo", "ok", "line lo", "ok", "library la", "error NoLibrary li", "archive ar v", "ok", "library ar", "error NameTaken",
                  "library x", "error NoLibrary li", "shelf", "ar li lo u v w")
        # In the place of one of its name; and of archives too.
        held = desk(V, W, "archive ar v", "line w ar", "library li", "line w v", "library li", MAIN, "line m li", "program main")
        self.told(held, "run", "shown 0 stopped", "machine", "shown 0 stopped")
        held = desk(V, W, "archive ar v", "line w ar", "library li", MAIN, "line m li", "program main")
        self.told(held, "machine", "shown 0 stopped", "run", "shown 0 stopped")

    def test_a_plan_has_the_items_as_they_were(self):
        held = desk(V, MAIN, "line v", "library li", "line m li", "program main")
        self.told(held, "run", "shown 0 stopped", "unit v\ncode f open\nset 1 9\nshow 1\nreturn", "ok", "run", "shown 0 stopped",
                  "drop v", "ok", "machine", "shown 0 stopped", "shelf", "li m")

    def test_another_edition(self):
        """A library's plan keeps the card that it was made with."""
        held = desk(V, W, "line v", "library li", "line w li", "library lo", "unit m\ncode main open\ncall g\nreturn", "line m lo li",
                    "program main")
        self.told(held, "run", "shown 0 stopped", "line v", "ok", "unit v\ncode f open\nreturn\nroom d open 2", "ok", "library li", "ok",
                  "line m lo li", "ok", "run", "error OtherCard", "machine", "stopped")

    def test_drop(self):
        held = desk(U, V, W, "archive ar v", "line v", "library li", "line w li", "library lo", "line u")
        self.told(held, "drop x", "error NoSuch", "drop u", "error InUse", "drop v", "error InUse", "drop li", "error InUse", "drop w", "ok",
                  "drop lo", "ok", "drop li", "ok", "drop ar", "ok", "drop v", "ok", "shelf", "u", "line", "ok", "drop u", "ok", "shelf", "none",
                  "undo", "ok", "shelf", "u", "undo", "ok", "undo", "ok", "shelf", "u v")
        held = desk(V, "archive ar v", "line round ar over")
        self.told(held, "drop ar", "error InUse", "drop v", "error InUse", "line ar", "ok", "drop ar", "error InUse", "line", "ok",
                  "drop ar", "ok", "drop v", "ok")
        # Names of which one is a part of the other.
        held = desk(V, V.replace("unit v", "unit vv"), "line vv", "library li")
        self.told(held, "drop v", "ok", "drop vv", "error InUse", "archive ar vv", "ok", "line round ar over", "ok", V, "ok", "drop v", "ok")
        # Its own plan keeps no library, and units that plans have may go.
        held = desk(V, "line v", "library li", "line li")
        self.told(held, "drop li", "error InUse", "drop v", "ok", "line", "ok", "drop li", "ok")

    def test_inputs(self):
        held = desk("unit u\ncode main open\nask 0\nask 1\nshow 0\nreturn", "line u", "program main")
        self.told(held, "run", "waits", "give 5", "ok", "run", "asked 5 waits", "give 63", "ok", "run", "asked 5 asked 63 shown 5 stopped",
                  "machine", "asked 5 asked 63 shown 5 stopped", "take back", "ok", "machine", "asked 5 waits", "take back", "ok",
                  "take back", "error BadInputs", "give 0", "ok", "give 10", "ok", "run", "asked 0 asked 10 shown 0 stopped")

    def test_undo_and_redo(self):
        held = Desk()
        self.told(held, "undo", "error NothingDone", "redo", "error NothingUndone", U, "ok", "program main", "ok", "line u", "ok",
                  "redo", "error NothingUndone", "undo", "ok", "size", "error Missing main", "undo", "ok", "size", "error NoEntry", "redo", "ok",
                  "redo", "ok", "redo", "error NothingUndone", "size", "10 12 12 12 12 12",
                  # Neither what is refused nor questions count; a deed forgets what was undone.
                  "undo", "ok", "drop x", "error NoSuch", "what", "what", "shelf", "u", "redo", "ok", "undo", "ok", "give 3", "ok",
                  "redo", "error NothingUndone", "undo", "ok", "redo", "ok", "undo", "ok", "undo", "ok", "undo", "ok", "undo", "error NothingDone",
                  "shelf", "none", "redo", "ok", "shelf", "u")

    def test_a_program_needs_nothing(self):
        self.told(Desk(), "program x", "ok", "members", "none", "kept", "error Missing x", "run", "error Missing x", "machine", "error Missing x")


class QuestionTest(Case):
    def test_example(self):
        held = desk(U, "line u", "program main")
        self.told(held, "members", "u", "kept", "u.main u.get u.pair", "size", "10 12 12 12 12 12", "lots", "u.main\nu.get\nu.pair",
                  "cells", "14 3 6 0 21 7 0 0 2 21 5 7", "run", "shown 7 stopped", "machine", "shown 7 stopped", "asks pair", "u 6",
                  "asks get", "u 2", "asks main", "none", "asks zz", "none",
                  "listing", "u main\n0: 14 3  call 5\n2: 6 0  show 0\n4: 21  return\nu get\n5: 7 0 0 2  load 0 11\n9: 21  return\nu pair\n10: 5 7")

    def test_no_entry(self):
        held = desk(U, "line u u")
        for line in ("members", "kept", "size", "lots", "cells", "listing", "run", "machine"):
            self.assertEqual(held.say(line), "error NoEntry")
        self.told(held, "shelf", "u", "asks get", "u 2", "text u", U)

    def test_asks(self):
        table = "table t own\n" + " ".join(["f"] * 8) + "\nnone none f g"
        held = desk("unit b\nspare f\nstart s\ncode s own\ncall f\ntry f 0\nload 0 d 1\nreturn\ndata d own\n1 2", "unit a\n" + table,
                    "unit c\ncode f open\njump f", "unit cc\ncode f open\ntake 0 f\nreturn\nconst k own\n1", "archive aa b")
        # Rows of unit_text; a row of items once, whatever stands there.
        self.told(held, "asks f", "a 2\na 3\nb 4\nb 5\nc 2\ncc 2", "asks g", "a 3", "asks d", "b 6", "asks s", "none", "asks k", "none")

    def test_asks_of_drawn_units(self):
        for seed in range(60):
            rng = random.Random(seed)
            held = Desk()
            units = [one_unit(rng, x) for x in ("ua", "ub", "uc")]
            for u in rng.sample(units, 3):
                self.assertEqual(held.say(unit_text(u)), "ok")
            for x in ("ca", "cb", "da", "ka", "ta"):
                rows = []
                for u in units:
                    for n, row in enumerate(unit_text(u).split("\n")):
                        words = row.split(" ")
                        at = 2 if words[0] in ("load", "store", "item", "fill", "take", "pick") else 1
                        if words[0] in plain.ASKED and words[0] != "table" and words[at] == x:
                            rows.append(f"{u[1]} {n}")
                        elif x in words and words[0] in ("none", "ca", "cb", "cc", "cd", "ce", "cf"):
                            rows.append(f"{u[1]} {n}")
                self.assertEqual(held.say("asks " + x), "\n".join(rows) or "none")

    def test_lots_of_more_pairs(self):
        held = desk("unit u\ncode main open\ncall f\ncall g\nreturn\ncode f own\nshow 1\nreturn\ncode g own\nshow 1\nreturn",
                    "line u", "program main")
        self.told(held, "lots", "u.main\nu.f u.g", "kept", "u.main u.f u.g")

    def test_showings(self):
        def told(rows, *more):
            held = desk("unit u\ncode main open\n" + rows, "line u", "program main", *more)
            self.assertEqual(held.say("run"), held.say("machine"))
            return held.say("run")
        self.assertEqual(told("stop"), "stopped")
        self.assertEqual(told("return"), "stopped")
        self.assertEqual(told("goto 0"), "cut")
        self.assertEqual(told("ask 1\nreturn"), "waits")
        self.assertEqual(told("ask 1\nshow 1\ngoto 0", "give 4", "give 0"), "asked 4 shown 4 asked 0 shown 0 waits")
        self.assertEqual(told("fail 5"), "fails 5\n- u main 0")
        self.assertEqual(told("show 0\ncall f\nreturn\ncode f own\nshow 0\nfail 62"), "shown 0 shown 0 fails 62\n- u f 1\n- u main 1")
        # 300 rows: the 300th is done, one behind it is not.
        self.assertEqual(told("show 0\ngoto 0"), " ".join(["shown 0"] * 150) + " cut")
        rows = ["set 0 0"] * 36
        self.assertEqual(told("\n".join(rows + ["return"])), "stopped")

    def test_300_rows(self):
        """Jumps from piece to piece, and a return at last: 300 rows are done, of 301 the last is not."""
        for many, end in ((299, "stopped"), (300, "cut")):
            pieces, left = [], many
            while left > 0:
                rows = min(39, left - 1) if left > 1 else 0
                left -= rows + 1
                pieces.append((rows, left))
            text = "unit u"
            for k, (rows, left) in enumerate(pieces):
                name = "main" if k == 0 else "p" + chr(96 + k)
                text += f"\ncode {name} open\n" + "set 0 0\n" * rows + (f"jump p{chr(97 + k)}" if left else "jump last")
            text += "\ncode last open\nreturn"
            held = desk(text, "line u", "program main")
            self.assertEqual((held.say("run"), held.say("machine")), (end, end))

    def test_frames(self):
        """In libraries by their names; by the machine the lot's first pair."""
        held = desk("unit v\ncode f open\ncall g\nreturn\ncode g own\nfail 8", "unit w\ncode k open\ncall h\nreturn\ncode h own\nfail 8",
                    "line v w", "library li", "unit m\ncode main open\ncall k\nreturn", "line m li", "program main")
        self.told(held, "run", "fails 8\nli w h 0\nli w k 0\n- m main 0", "machine", "fails 8\nli v g 0\nli v f 0\n- m main 0")

    def test_errors_told(self):
        wrong = "unit x\ncode main open\nload 0 f 0\nreturn"
        long = "unit y\ncode main open\nload 0 d 2\nreturn"
        for said, answer in (
                ((V, V.replace("unit v", "unit vv"), MAIN, "line m v vv"), "error TwoStrong f"),
                ((V, "unit vv\nroom f open 2", MAIN, "line m v vv"), "error TwoSorts f"),
                ((MAIN.replace("call f", "call f\ncall a"), "line m"), "error Missing a f"), (("line",), "error Missing main"),
                (("unit a\nroom main open 2", "line a"), "error WrongSort - - main"),
                ((V, wrong, "line x v"), "error WrongSort x main f"),
                ((long, "unit z\ndata d open\n1 2", "line y z"), "error TooShort y main d"),
                (("unit a\ncode main open\nload 0 g 0\nstop\ncode g own\nstop", "line a"), "error BadLine")):
            held = desk(*said, "program main")
            for line in ("kept", "size", "lots", "cells", "listing", "run", "machine"):
                told = "error BadWorld" if line == "run" and answer == "error BadLine" else answer
                self.assertEqual(held.say(line), told)
        held = desk(V, W, "line v", "library li", "line w li", "library lo", "unit m\ncode main open\ncall g\nreturn", "line m lo",
                    "program main")
        for line in ("members", "kept", "size", "lots", "cells", "listing", "run", "machine"):
            self.assertEqual(held.say(line), "error NoLibrary li")

    def test_not_let(self):
        held = desk("unit v\ndata d open\n1", "line v", "library li", "unit x\ndata d open\n1 2", "unit y\ncode k open\nload 0 d 0\nreturn",
                    "line x y", "library lo", "unit m\ncode main open\nreturn", "line m li lo", "program main")
        self.told(held, "size", "1 1 1 1 1 1", "run", "error NotLet", "machine", "error NotLet", "line m lo li", "ok", "run", "stopped",
                  "machine", "stopped")

    def test_too_great(self):
        names = [f"r{chr(97 + k)}" for k in range(24)]
        text = "unit big\n" + "\n".join(f"room {x} open 64" for x in names)
        other = text.replace("unit big", "unit two").replace("room r", "room s")
        rows = "\n".join(f"load 0 {x} 0" for x in names)
        main = f"unit m\ncode main open\ncall p\n{rows}\nreturn\ncode p own\n" + rows.replace(" r", " s") + "\nreturn"
        held = desk(text, other, main, "line big two m", "program main")
        self.told(held, "size", "error TooGreat", "machine", "error TooGreat", "run", "stopped", "kept",
                  " ".join([f"big.{x}" for x in names] + [f"two.{x.replace('r', 's', 1)}" for x in names] + ["m.main", "m.p"]))


class DrawnTest(Case):
    def words_for(self, held, one):
        """The words of an item in the desk's line, behind what it names was told; none for what is empty."""
        if one[0] == "round":
            words = [word for a in one[1] for word in self.words_for(held, a)]
            return ["round"] + words + ["over"] if words else []
        if one[0] == "library":
            return [one[1][1]]
        for thing in one[2] if one[0] == "archive" else one[1:]:
            self.assertEqual(held.say(unit_text(self.unit_of(thing))), "ok")
        if one[0] == "object":
            return [one[1][1]]
        names = [thing[1] for thing in one[2]]
        if names:
            self.assertEqual(held.say(" ".join(["archive", one[1]] + names)), "ok")
        return [one[1]] if names else []

    def say_world(self, held, rng, world):
        """Tells the desk the world: its libraries, and its program's line last."""
        for k, (_, goal, line) in enumerate(world):
            words = [word for one in line for word in self.words_for(held, one)]
            self.assertEqual(held.say(" ".join(["line"] + words)), "ok")
            self.assertEqual(held.say(" ".join(goal) if goal[0] == "library" else "program " + goal[1]), "ok")

    def unit_of(self, thing):
        return plain.unit_told(thing)

    def expected(self, f):
        """What a desk answers if f tells words, or raises."""
        try:
            return f() or "none"
        except LinkError as e:
            more = []
            for x in ("at", "names", "unit", "piece", "name"):
                if x in vars(e) and type(e).__name__ in ("Missing", "TwoStrong", "TwoSorts", "NoLibrary", "WrongSort", "TooShort"):
                    held = vars(e)[x]
                    more += list(held) if type(held) is tuple else ["-" if held is None else str(held)]
            return " ".join(["error", type(e).__name__] + more)

    def showing(self, told):
        events, end = told
        text = " ".join([f"{word} {c}" for word, c in events] + [str(x) for x in end[:2]])
        for frame in end[2] if end[0] == "fails" else ():
            pair = frame[1:3] if len(frame) == 4 else frame[1][0] if frame[1] else ("-", "-")
            text += f"\n{frame[0] or '-'} {pair[0]} {pair[1]} {frame[-1]}"
        return text

    def test_worlds(self):
        """What is answered is what the functions tell of the world, which has only what the line leads to, in the walk's order."""
        for seed in range(120):
            rng = random.Random(seed)
            world = worlds.one_world(rng)
            inputs = worlds.one_inputs(rng)
            held = Desk()
            self.say_world(held, rng, world)
            for c in inputs:
                self.assertEqual(held.say(f"give {c}"), "ok")
            _, goal, line = world[-1]
            order = plainrun.back_from(len(world) - 1, lambda k: plainrun.needs(world, k), [])
            world = tuple(world[k] for k in order)
            images = [linked(p[2], p[1]) for p in world]
            image = images[-1]
            names = [o[1] for o in members(line, goal)]
            web = web_of(line, goal)
            for word, answer in (
                    ("members", " ".join(names)), ("size", " ".join(map(str, image[11]))), ("cells", " ".join(map(str, image[10]))),
                    ("kept", " ".join(names[web[3][k][1][0]] + "." + web[3][k][1][1] for k in kept(web))),
                    ("lots", "\n".join(" ".join(u + "." + x for u, x in lot) for _, _, lot, _ in image[12])),
                    ("listing", listing(image)), ("run", self.showing(run_world(world, inputs, 300))),
                    ("machine", self.showing(run_images(image, tuple(images[:-1]), inputs, 300)))):
                self.assertEqual(held.say(word), answer or "none", word)

    def test_equal_desks_answer_alike(self):
        """Whatever was said to them before: what is told again makes an equal desk."""
        questions = ("shelf", "members", "kept", "size", "lots", "cells", "listing", "run", "machine", "asks ca", "text ua")
        for seed in range(60):
            rng = random.Random(seed)
            world = worlds.one_world(rng, 2)
            one, other = Desk(), Desk()
            self.say_world(one, rng, world)
            for _ in range(rng.randrange(4)):
                other.say(rng.choice((V, W, "archive ua uz", "give 3", "take back", "line", "drop ua", "program zz", "undo", "library li")))
            for thing in ("v", "w", "li"):
                other.say("line")
                other.say("drop " + thing)
            while other.say("take back") == "ok":
                pass
            self.say_world(other, rng, world)
            for line in questions:
                self.assertEqual(one.say(line), other.say(line))

    def test_undone_deeds_leave_nothing(self):
        for seed in range(40):
            rng = random.Random(seed)
            held = Desk()
            answers = []
            done = []
            said = [U, V, W, MAIN, "archive ar v w", "line u", "line m v", "line m round ar over", "library li", "line m li", "program main",
                    "give 4", "take back", "drop v", "drop u", "program g"]
            questions = ("shelf", "members", "kept", "size", "run", "machine", "asks f")
            for _ in range(25):
                before = [held.say(q) for q in questions]
                line = rng.choice(said)
                if held.say(line) == "ok":
                    done.append(before)
                    answers.append([held.say(q) for q in questions])
                else:
                    self.assertEqual([held.say(q) for q in questions], before)
            for before, behind in reversed(list(zip(done, answers))):
                self.assertEqual([held.say(q) for q in questions], behind)
                self.assertEqual(held.say("undo"), "ok")
                self.assertEqual([held.say(q) for q in questions], before)
            self.assertEqual(held.say("undo"), "error NothingDone")
            for behind in answers:
                self.assertEqual(held.say("redo"), "ok")
                self.assertEqual([held.say(q) for q in questions], behind)
            self.assertEqual(held.say("redo"), "error NothingUndone")

    def test_if_run_tells_machine_tells_the_same(self):
        told = 0
        for seed in range(120):
            rng = random.Random(seed)
            held = Desk()
            self.say_world(held, rng, worlds.one_world(rng))
            one, other = held.say("run").split("\n"), held.say("machine").split("\n")
            self.assertFalse(one[0].startswith("error"))
            told += len(one) > 1
            self.assertEqual((one[0], len(one)), (other[0], len(other)))
            for frame, lot in zip(one[1:], other[1:]):
                frame, lot = frame.split(" "), lot.split(" ")
                self.assertEqual((frame[0], frame[3], len(frame)), (lot[0], lot[3], len(lot)))
        self.assertGreater(told, 10)

    def test_cards_on_the_desk(self):
        """A library's card is that of its plan's naming."""
        for seed in range(40):
            rng = random.Random(seed)
            world = worlds.one_world(rng)
            held = Desk()
            self.say_world(held, rng, world)
            _, goal, line = world[-1]
            self.assertEqual(held.say("kept"), self.expected(lambda: " ".join(
                members(line, goal)[web_of(line, goal)[3][k][1][0]][1] + "." + web_of(line, goal)[3][k][1][1]
                for k in kept(web_of(line, goal)))))
            for _, goal, line in world[:-1]:
                self.assertEqual(plainlink.cards_of(line), [
                    card_for(*[p[1:] for p in world if p[1] == ("library", c[1])][0]) for c in plainlink.cards_of(line)])


if __name__ == "__main__":
    unittest.main()
