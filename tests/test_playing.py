import random
import unittest

from onebase.objects import assembled, unit_of
from onebase.playing import Play, run_world
from tests import plain, plainlink, plainrun, worlds
from tests.support import WEIRD, calls, code, item, made, piece, raised
from tests.test_meaning import LI, MAIN, card_item, lib, program


def world_of(*pieces, **more):
    return (program(item(made("u", *pieces, **more))),)


def shown(*numbers):
    return tuple(("shown", n) for n in numbers)


class RowsTest(unittest.TestCase):
    def check(self, rows, events, end=("stopped",), inputs=(), more=(), **rest):
        world = world_of(code("main", *rows), *more, **rest)
        self.assertEqual(run_world(world, inputs, 200), (events, end))
        self.assertEqual(plainrun.run_world(world, inputs, 200), (events, end))

    def test_registers(self):
        self.check((("show", 0), ("show", 3), ("return",)), shown(0, 0))
        self.check((("set", 1, 63), ("copy", 2, 1), ("plus", 2, 1), ("show", 2), ("show", 1), ("return",)), shown(62, 63))
        self.check((("set", 0, 40), ("plus", 0, 0), ("show", 0), ("set", 1, 24), ("plus", 0, 1), ("show", 0), ("return",)),
                   shown(16, 40))
        self.check((("set", 0, 1), ("set", 1, 2), ("less", 0, 1), ("show", 0), ("less", 1, 1), ("show", 1), ("less", 0, 1),
                    ("show", 0), ("return",)), shown(1, 0, 0))

    def test_asking_and_showing(self):
        self.check((("ask", 1), ("ask", 0), ("show", 1), ("show", 0), ("return",)),
                   (("asked", 5), ("asked", 63)) + shown(5, 63), inputs=(5, 63, 7))
        self.check((("ask", 1), ("ask", 0), ("return",)), (("asked", 5),), ("waits",), inputs=[5])

    def test_cells(self):
        data, room, const = piece("d", "data", (4, 5, 6)), piece("r", "room", 2), piece("k", "const", (7, 8))
        more = (data, room, const)
        self.check((("load", 0, "d", 2), ("show", 0), ("load", 0, "k", 1), ("show", 0), ("load", 0, "r", 1), ("show", 0),
                    ("return",)), shown(6, 8, 0), more=more)
        self.check((("set", 1, 9), ("store", 1, "d", 1), ("store", 1, "r", 0), ("load", 0, "d", 1), ("show", 0),
                    ("load", 0, "d", 0), ("show", 0), ("load", 0, "r", 0), ("show", 0), ("return",)), shown(9, 4, 9),
                   more=more)
        # The index modulo the length.
        self.check((("set", 1, 4), ("item", 0, "d", 1), ("show", 0), ("set", 1, 63), ("item", 0, "k", 1), ("show", 0),
                    ("fill", 1, "r", 1), ("item", 0, "r", 1), ("show", 0), ("load", 0, "r", 1), ("show", 0), ("return",)),
                   shown(5, 8, 63, 63), more=more)

    def test_places(self):
        table = piece("t", "table", ("f", None, "g"))
        more = (table, code("f", ("show", 0), ("return",)), code("g", ("show", 1), ("return",)))
        self.check((("alike", 0, 0, 1), ("show", 0), ("take", 0, "f"), ("alike", 0, 0, 1), ("show", 0), ("take", 1, "f"),
                    ("alike", 0, 0, 1), ("show", 0), ("take", 1, "g"), ("alike", 0, 0, 1), ("show", 0), ("return",)),
                   shown(1, 0, 1, 0), more=more)
        self.check((("set", 1, 3), ("pick", 0, "t", 1), ("take", 1, "f"), ("alike", 0, 0, 1), ("show", 0), ("set", 1, 4),
                    ("pick", 0, "t", 1), ("alike", 0, 0, 1), ("show", 0), ("set", 1, 2), ("pick", 1, "t", 1),
                    ("leap", 1), ("return",)), shown(1, 0, 2), more=more)
        # A spare that nobody defines is nothing.
        self.check((("take", 0, "f"), ("take", 0, "no"), ("alike", 0, 0, 1), ("show", 0), ("return",)), shown(1), more=more,
                   spares=("no",))

    def test_ways(self):
        self.check((("goto", 2), ("show", 0), ("if", 0, 1), ("set", 0, 1), ("if", 0, 6), ("stop",), ("show", 0), ("stop",)),
                   shown(1))
        self.check((("call", "f"), ("show", 0), ("stop",)), shown(7, 7), more=(code("f", ("set", 0, 7), ("show", 0), ("return",)),))
        # A jump exchanges the frame: f returns to nobody.
        self.check((("jump", "f"),), shown(7), more=(code("f", ("set", 0, 7), ("show", 0), ("return",)),))
        self.check((("call", "f"), ("show", 0), ("return",)), shown(1),
                   more=(code("f", ("jump", "g")), code("g", ("set", 0, 1), ("return",))))
        self.check((("call", "f"), ("show", 0), ("return",)), (), more=(code("f", ("stop",)),))

    def test_fails(self):
        self.check((("show", 0), ("fail", 62)), shown(0), ("fails", 62, (("", "u", "main", 1),)))
        self.check((("fail", 0),), (), ("fails", 0, (("", "u", "main", 0),)))
        f = code("f", ("show", 1), ("call", "g"), ("return",))
        g = code("g", ("show", 2), ("show", 2), ("fail", 5))
        self.check((("call", "f"), ("return",)), shown(0, 0, 0), ("fails", 5, (
            ("", "u", "g", 2), ("", "u", "f", 1), ("", "u", "main", 0))), more=(f, g))
        # The innermost try takes it; what stands above is gone.
        self.check((("set", 0, 9), ("try", "f", 4), ("show", 0), ("stop",), ("show", 0), ("return",)), shown(0, 0, 0, 5),
                   more=(f, g))
        self.check((("try", "f", 2), ("stop",), ("show", 0), ("fail", 1)), shown(5), ("fails", 1, (("", "u", "main", 3),)),
                   more=(code("f", ("try", "g", 2), ("stop",), ("fail", 5)), code("g", ("fail", 4))))
        # A try that has come back takes nothing any more.
        self.check((("try", "f", 0), ("fail", 3)), (), ("fails", 3, (("", "u", "main", 1),)), more=(code("f"),))
        # A jump takes the frame of what waits not away, but its own.
        self.check((("try", "f", 2), ("stop",), ("show", 0), ("return",)), shown(8),
                   more=(code("f", ("jump", "g")), code("g", ("fail", 8))))
        self.check((("jump", "f"),), (), ("fails", 8, (("", "u", "f", 0),)), more=(code("f", ("fail", 8)),))

    def test_nothing(self):
        for rows, at in (((("call", "no"), ("return",)), 0), ((("show", 0), ("jump", "no")), 1),
                         ((("leap", 1), ("return",)), 0)):
            self.check(rows, shown(0) * at, ("fails", 63, (("", "u", "main", at),)), spares=("no",))
            # In a call within a try, and by a try itself.
            caught = (("try", "f", 2), ("stop",), ("show", 0), ("return",))
            self.check(caught, shown(0) * at + shown(63), more=(code("f", *rows),), spares=("no",))
        self.check((("set", 0, 1), ("try", "no", 3), ("stop",), ("show", 0), ("return",)), shown(63), spares=("no",))
        # Not by a try further out: it takes this failure itself.
        self.check((("try", "f", 2), ("stop",), ("show", 0), ("return",)), (), more=(
            code("f", ("try", "no", 1), ("return",)),), spares=("no",))


class BeginningsTest(unittest.TestCase):
    def test_order(self):
        def part(name, *numbers):
            """A unit whose starts show these numbers."""
            pieces = [code("s" + "abc"[k], ("set", 0, n), ("show", 0), ("return",), reach="own") for k, n in enumerate(numbers)]
            return item(made(name, *pieces, code("f" + name, ("show", 3), ("return",)),
                             starts=tuple(p[1] for p in reversed(pieces))))
        li = lib("li", part("v", 1, 2), part("w", 3))
        lo = lib("lo", part("v", 4), card_item(li))
        out = lib("out", part("v", 5))
        main = item(made("u", code("main", ("set", 0, 9), ("show", 0), ("return",)),
                         code("s", ("set", 0, 8), ("show", 0), ("return",), reach="own"), starts=("s", "s")))
        world = (li, lo, out, program(card_item(lo), main, card_item(li)))
        self.assertEqual(run_world(world, (), 99), (shown(2, 1, 3, 4, 8, 8, 9), ("stopped",)))

    def test_a_return_goes_on_a_stop_ends(self):
        def world(last):
            return world_of(code("s", ("set", 1, 5), ("take", 0, "f"), last, reach="own"), code("f", ("show", 1), ("return",)),
                            code("main", ("show", 1), ("leap", 0), ("return",)), starts=("s",))
        # Registers and places stay from one beginning to the next.
        self.assertEqual(run_world(world(("return",)), (), 99), (shown(5, 5), ("stopped",)))
        self.assertEqual(run_world(world(("stop",)), (), 99), ((), ("stopped",)))
        self.assertEqual(run_world(world(("fail", 4)), (), 99), ((), ("fails", 4, (("", "u", "s", 2),))))
        self.assertEqual(run_world(world(("jump", "f")), (), 99), (shown(5, 5, 5), ("stopped",)))


class RunTest(unittest.TestCase):
    WORLD = world_of(code("main", ("ask", 0), ("show", 0), ("ask", 1), ("return",)))

    def test_most(self):
        for most, inputs, events, end in (
                (0, (3, 4), (), ("cut",)), (1, (3, 4), (("asked", 3),), ("cut",)),
                (3, (3, 4), (("asked", 3), ("shown", 3), ("asked", 4)), ("cut",)),
                (4, (3, 4), (("asked", 3), ("shown", 3), ("asked", 4)), ("stopped",)),
                (2000, (3, 4), (("asked", 3), ("shown", 3), ("asked", 4)), ("stopped",)),
                # An ask without input would come behind the most rows: cut, not waits.
                (0, (), (), ("cut",)), (1, (), (), ("waits",)), (2, (3,), (("asked", 3), ("shown", 3)), ("cut",)),
                (3, (3,), (("asked", 3), ("shown", 3)), ("waits",))):
            self.assertEqual(run_world(self.WORLD, inputs, most), (events, end))
            self.assertEqual(run_world(most=most, inputs=list(inputs), world=self.WORLD), (events, end))
        for last, end in ((("stop",), ("stopped",)), (("fail", 2), ("fails", 2, (("", "u", "main", 1),)))):
            world = world_of(code("main", ("show", 0), last))
            self.assertEqual(run_world(world, (), 1), (shown(0), ("cut",)))
            self.assertEqual(run_world(world, (), 2), (shown(0), end))
        self.assertEqual(run_world(world_of(code("main", ("goto", 0))), (), 2000), ((), ("cut",)))

    def test_wrong_inputs_and_most(self):
        for thing in WEIRD + ([64], [-1], (0, True), [0.0], "ab", (0, None), {1: 2}, ((1,),)):
            if not (type(thing) in (tuple, list) and all(type(x) is int and 0 <= x <= 63 for x in thing)):
                self.assertEqual(raised(run_world, self.WORLD, thing, None), ("BadInputs", {}))
                self.assertEqual(raised(Play, self.WORLD, thing), ("BadInputs", {}))
                self.assertEqual(raised(run_world, (), thing, None), ("BadWorld", {}))
        for thing in WEIRD + (-1, 2001, True, 1.0, "1", None):
            if not (type(thing) is int and 0 <= thing <= 2000):
                self.assertEqual(raised(run_world, self.WORLD, (), thing), ("BadMost", {}))
        self.assertEqual(raised(run_world, (LI, program(MAIN)), None, None), ("Missing", {"names": ("f",)}))

    def test_inputs_stay(self):
        inputs = [1, 2]
        run_world(self.WORLD, inputs, 9)
        self.assertEqual(inputs, [1, 2])


class PlayTest(unittest.TestCase):
    def test_row_by_row(self):
        u = made("u", calls("main", "f"), code("s", ("set", 2, 5), ("take", 1, "f"), ("return",), reach="own"), starts=("s",))
        world = (LI, program(item(u), card_item(LI)))
        play = Play(world, ())
        f = (0, 0, "f")
        states = [
            ((("", "u", "s", 0),), (0, 0, 0, 0), (None, None), (), None),
            ((("", "u", "s", 1),), (0, 0, 5, 0), (None, None), (), None),
            ((("", "u", "s", 2),), (0, 0, 5, 0), (None, f), (), None),
            ((("", "u", "main", 0),), (0, 0, 5, 0), (None, f), (), None),
            ((("li", "v", "f", 0), ("", "u", "main", 0)), (0, 0, 5, 0), (None, f), (), None),
            ((("li", "v", "f", 1), ("", "u", "main", 0)), (0, 0, 5, 0), (None, f), shown(0), None),
            ((("", "u", "main", 1),), (0, 0, 5, 0), (None, f), shown(0), None),
            ((), (0, 0, 5, 0), (None, f), shown(0), ("stopped",)),
        ]
        for at, state in enumerate(states):
            self.assertEqual(play.state(), state)
            self.assertIs(play.step(), at < len(states) - 1)
        for _ in range(3):
            self.assertIs(play.step(), False)
            self.assertEqual(play.state(), states[-1])

    def test_waits_with_the_first_step_that_tells_false(self):
        play = Play(inputs=[3], world=RunTest.WORLD)
        self.assertIs(play.step(), True)
        self.assertIs(play.step(), True)
        before = play.state()
        self.assertEqual(before[0], (("", "u", "main", 2),))
        self.assertIsNone(before[4])
        for _ in range(2):
            self.assertIs(play.step(), False)
            self.assertEqual(play.state(), ((),) + before[1:4] + (("waits",),))

    def test_a_fail_is_a_row(self):
        play = Play(world_of(code("main", ("fail", 7))), ())
        self.assertIs(play.step(), True)
        self.assertEqual(play.state(), ((), (0,) * 4, (None, None), (), ("fails", 7, (("", "u", "main", 0),))))
        self.assertIs(play.step(), False)

    def test_what_is_told_is_the_askers(self):
        play = Play(world_of(piece("d", "data", (1, 2)), code("main", ("store", 0, "d", 0), ("goto", 0))), [1])
        state = play.state()
        play.step()
        self.assertEqual(state[0], (("", "u", "main", 0),))

    def test_data_of_each_plan_are_its_own(self):
        """Two plans with like units and names: each has its own data; two plays share none."""
        def part(name):
            return item(made("v", code(name, ("load", 0, "d", 0), ("set", 1, 1), ("plus", 0, 1), ("store", 0, "d", 0), ("show", 0),
                                       ("return",)), piece("d", "data", (5,), "own")))
        li, lo = lib("li", part("f")), lib("lo", part("g"))
        main = item(made("u", calls("main", "f", "f", "g")))
        world = (li, lo, program(main, card_item(li), card_item(lo)))
        for _ in range(2):
            self.assertEqual(run_world(world, (), 99), (shown(6, 7, 6), ("stopped",)))

    def test_drawn_worlds(self):
        """Row by row as the second reading."""
        ends = {}
        for seed in range(250):
            rng = random.Random(seed)
            world, inputs = worlds.one_world(rng), worlds.one_inputs(rng)
            play, other = Play(world, inputs), plainrun.Run(world, inputs)
            for at in range(120):
                self.assertEqual(play.state(), other.state())
                if at in (0, 7, 30):
                    self.assertEqual(run_world(world, inputs, at), (play.state()[3], play.state()[4] or ("cut",)))
                told = play.step()
                self.assertIs(told, other.step())
                if not told:
                    break
            self.assertEqual(play.state(), other.state())
            end = (play.state()[4] or ("cut",))[0]
            ends[end] = ends.get(end, 0) + 1
        for end in ("stopped", "fails", "cut", "waits"):
            self.assertGreater(ends[end], 2, ends)


class ByNamesTest(unittest.TestCase):
    def otherwise(self, rng, world):
        """The world with pieces in any order, own ones with other names; and by (unit's name, new name) the old ones."""
        plans, known = [], {}
        for _, goal, line in world:
            items = []
            for one in line:
                if one[0] == "object":
                    _, title, spares, starts, pieces = unit_of(one[1])
                    had = {p[1] for p in pieces} | {x for p in pieces for _, _, x, _ in plain.uses_of(p[2], p[5])}
                    fresh = [x for x in ("na", "nb", "nc", "nd", "ne", "nf", "ca", "cc", "da", "ka", "tb") if x not in had | set(spares)]
                    rng.shuffle(fresh)
                    new = {p[1]: fresh.pop() for p in pieces if p[3] == "own"}
                    for x, y in new.items():
                        known[goal, title, y] = x
                    held = [p[:1] + (new.get(p[1], p[1]),) + p[2:5] + (plainlink.changed(
                        p[2], p[5], lambda _, x: new.get(x, x)),) for p in pieces]
                    rng.shuffle(held)
                    one = item(assembled(("unit", title, spares, tuple(new[x] for x in starts), tuple(held))))
                items.append(one)
            plans.append(("plan", goal, tuple(items)))
        return tuple(plans), known

    def test_heart(self):
        changed = 0
        for seed in range(150):
            rng = random.Random(seed)
            world, inputs = worlds.one_world(rng), worlds.one_inputs(rng)
            other, known = self.otherwise(rng, world)
            changed += world != other
            goals = {p[1][1] if k < len(world) - 1 else "": p[1] for k, p in enumerate(world)}
            events, end = run_world(other, inputs, 150)
            if end[0] == "fails":
                end = end[:2] + (tuple((i, u, known.get((goals[i], u, x), x), n) for i, u, x, n in end[2]),)
            self.assertEqual(run_world(world, inputs, 150), (events, end))
        self.assertGreater(changed, 100)


if __name__ == "__main__":
    unittest.main()
