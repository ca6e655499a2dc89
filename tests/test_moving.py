import random
import time
import unittest

from onebase.bundles import bundle_of
from onebase.carrying import carries
from onebase.images import image_of, image_with, linked
from onebase.loading import memory
from onebase.loose import loose
from onebase.machine import Machine, run_images
from onebase.moving import moved
from onebase.playing import Play, run_world
from onebase.readback import read_back
from onebase.widths import branches, grown
from tests import plainrun, worlds
from tests.instep import InStep, one_carrying
from tests.support import WEIRD, calls, code, item, made, piece, raised
from tests.test_loose import TWINS
from tests.test_meaning import card_item, lib, program
from tests.test_readback import IMAGE

MAIN = ("program", "main")
UNIT = made("u", code("main", ("call", "get"), ("show", 0), ("return",)), code("get", ("load", 0, "pair", 1), ("return",), reach="own"),
            piece("pair", "const", (5, 7), "own"))
WORLD = (program(item(UNIT)),)
LONG = image_with(read_back(IMAGE), ((0, 0),))
TWO = (("plan", MAIN, TWINS),)
APART = image_of(loose(TWINS, MAIN, ((0,), (1,), (2,), (3,)), (0, 1, 2, 3)))


def frozen(machine):
    return machine.state(), machine.held()


def split_due(machine, images):
    """The Split that is due, None if none is: frames innermost first, each in a lot of the new image."""
    for name, lot, row in machine.state()[0]:
        there = [i for i in images if i[1] == name][0]
        if not any(set(lot) <= set(entry[2]) for entry in there[12]):
            return ("Split", {"name": name, "lot": lot, "row": row})
    return None


class MovedTest(InStep, unittest.TestCase):
    def test_example_by_hand(self):
        machine = Machine(IMAGE, (), [])
        self.assertTrue(machine.step())
        self.assertEqual(machine.held()[:2], (6, (3,)))
        told = moved(world=WORLD, machine=machine, images=(LONG,), bases=None)
        self.assertEqual(told.held()[:2], (7, (4,)))
        self.assertEqual(machine.held()[:2], (6, (3,)))
        told = moved(WORLD, machine, (LONG,), (701,))
        self.assertEqual(told.held()[:2], (707, (704,)))
        self.assertEqual((told.go(9), told.state()[3:]), (4, ((("shown", 7),), ("stopped",))))
        self.assertEqual(told.spot(707), (0, 6))

    def test_what_is_told_is_a_machine(self):
        told = moved(WORLD, Machine(IMAGE, (), []), (IMAGE,))
        self.assertIsInstance(told, Machine)
        self.assertEqual(frozen(told), frozen(Machine(IMAGE, (), [])))
        other = told.copy()
        self.assertTrue(other.step())
        self.assertEqual(told.held()[0], 1)
        self.assertEqual(moved(WORLD, other, (IMAGE,)).held()[0], 6)

    def test_split(self):
        """The folded body stands for two: each has one of its own in the other image."""
        folded = linked(TWINS, MAIN)
        both = (("u", "get"), ("u", "twin"))
        machine = Machine(folded, (), ())
        told = moved(TWO, machine, (APART,))
        self.assertEqual(told.state()[0], (("", (("u", "main"),), 0),))
        machine.step()
        self.assertEqual(raised(moved, TWO, machine, (APART,)), ("Split", {"name": "", "lot": both, "row": 0}))
        machine.step()
        self.assertEqual(raised(moved, TWO, machine, (APART,), "no bases"), ("Split", {"name": "", "lot": both, "row": 1}))
        machine.step()
        self.assertEqual(moved(TWO, machine, (APART,)).state()[0][0][2], 1)
        # The other way it goes at every row.
        machine = Machine(APART, (), ())
        while True:
            told = moved(TWO, machine, (folded,))
            self.assertEqual([f[2] for f in told.state()[0]], [f[2] for f in machine.state()[0]])
            if not machine.step() or machine.state()[4]:
                break

    def test_split_of_a_row_that_waits(self):
        """The next row ahead of those that wait, of these the innermost first; the call's row is told."""
        f = (("set", 0, 1), ("call", "low"), ("return",))
        unit = made("u", code("main", ("call", "fa"), ("call", "fb"), ("return",)), code("fa", *f, reach="own"), code("fb", *f, reach="own"),
                    code("low", ("call", "ga"), ("call", "gb"), ("return",), reach="own"), code("ga", ("show", 0), ("return",), reach="own"),
                    code("gb", ("show", 0), ("return",), reach="own"))
        world = (program(item(unit)),)
        lots = lambda *more: image_of(loose(world[0][2], MAIN, more, tuple(sorted(lot[0] for lot in more))))
        whole = lots((0,), (1, 2), (3,), (4, 5))
        self.assertEqual(whole, linked(world[0][2], MAIN))
        apart, upper, lower = lots((0,), (1,), (2,), (3,), (4,), (5,)), lots((0,), (1,), (2,), (3,), (4, 5)), lots((0,), (1, 2), (3,), (4,), (5,))
        machine = Machine(whole, (), ())
        machine.go(4)
        self.assertEqual([f[2] for f in machine.state()[0]], [0, 0, 1, 0])
        outer = ("Split", {"name": "", "lot": (("u", "fa"), ("u", "fb")), "row": 1})
        inner = ("Split", {"name": "", "lot": (("u", "ga"), ("u", "gb")), "row": 0})
        self.assertEqual(raised(moved, world, machine, (apart,)), inner)
        self.assertEqual(raised(moved, world, machine, (upper,)), outer)
        self.assertEqual(raised(moved, world, machine, (lower,)), inner)
        self.assertEqual(raised(moved, world, machine, (whole,))[0], "told")

    def test_lots_with_what_is_not_kept(self):
        """HEART: to the linked images it can always be moved, be there others in the lots that never run."""
        line = (item(made("u", code("main", ("call", "f"), ("return",)), code("f", ("show", 0), ("return",), reach="own"),
                          code("g", ("show", 0), ("return",), reach="own"))),)
        bundle = bundle_of(line, MAIN)
        self.assertEqual([part[2] for part in bundle[7]], [(("u", "main"),), (("u", "f"),)])
        both = bundle[7][1][:2] + ((("u", "f"), ("u", "g")),) + bundle[7][1][3:]
        image = image_of(bundle[:7] + ((bundle[7][0], both),))
        self.assertTrue(carries(line, MAIN, image))
        machine = Machine(image, (), ())
        machine.step()
        told = moved((("plan", MAIN, line),), machine, (linked(line, MAIN),))
        self.assertEqual(told.state()[0], (("", (("u", "f"),), 0), ("", (("u", "main"),), 0)))
        self.assertEqual(told.go(5), 3)
        # To any other image the words of Split hold: the whole lot is asked for.
        world = (("plan", MAIN, line),)
        split = ("Split", {"name": "", "lot": (("u", "f"), ("u", "g")), "row": 0})
        for other in (image_with(bundle, branches(bundle)), image_of(bundle[:2] + (1,) + bundle[3:7] + ((bundle[7][1], bundle[7][0][:3] + (
                (("call", 0), ("return",)),)),))):
            self.assertTrue(carries(line, MAIN, other))
            self.assertEqual(raised(moved, world, machine, (other,)), split)
        self.assertEqual(raised(moved, world, machine, (image_with(bundle[:7] + ((bundle[7][0], both),), ((0, 0),)),))[0], "told")

    def test_what_goes_along(self):
        """Registers, events, inputs, places, data and rooms; late slots are to be bound anew."""
        li = lib("li", item(made("v", code("f", ("store", 1, "d", 1), ("store", 1, "r", 0), ("load", 2, "d", 1), ("return",)),
                                 piece("d", "data", (8, 9), "own"), piece("r", "room", 2, "own"), code("s", ("show", 3), ("return",), reach="own"),
                                 starts=("s", "s"))))
        main = made("u", code("main", ("ask", 1), ("take", 0, "f"), ("take", 1, "g"), ("call", "f"), ("ask", 3), ("show", 2), ("leap", 0), ("show", 2), ("leap", 1),
                              ("return",)), code("g", ("fail", 3), reach="own"))
        world = (li, program(item(main), card_item(li)))
        images = worlds.images_for(world)
        images = (images[0],) + images[1]
        for late in (False, True):
            rows = Machine(images[0], images[1:], (11, 12, 13), late=late).go(99)
            self.assertGreater(rows, 18)
            for many in range(rows):
                machine = Machine(images[0], images[1:], (11, 12, 13), late=late)
                self.assertEqual(machine.go(many), many)
                before = frozen(machine)
                told = moved(world, machine, images, (2000, 77))
                self.assertEqual(frozen(machine), before)
                self.assertEqual(told.state()[0], machine.state()[0])
                self.assertEqual(told.state()[1], machine.state()[1])
                self.assertEqual(told.state()[3:], machine.state()[3:])
                shift = lambda address: address and {0: 2000, 1: 77}[machine.spot(address)[0]] + machine.spot(address)[1]
                self.assertEqual(told.state()[2], tuple(map(shift, machine.state()[2])))
                self.assertEqual(told.held()[0], shift(machine.held()[0]))
                self.assertEqual(told.held()[1], tuple(shift(a - 1) + 1 for a in machine.held()[1]))
                # Both slots of the program: f alone is called, taken too; so it is not late.
                self.assertEqual(len(told.held()[2]), sum(slot[2] for i in images for slot in i[7]) if late else 0)
                for k, image in enumerate(images):
                    old, new = machine.bases[k], (2000, 77)[k]
                    for position in range(image[11][3], image[11][5]):
                        self.assertEqual(told.held()[3][new + position], machine.held()[3][old + position])
                told.go(99), machine.go(99)
                self.assertEqual(told.state()[1:2] + told.state()[3:], machine.state()[1:2] + machine.state()[3:])
                self.assertEqual(told.state()[4][:2], ("fails", 3))

    def test_late_slots_are_unbound_again(self):
        li = lib("li", item(made("v", code("f", ("show", 0), ("return",)))))
        world = (li, program(item(made("u", code("main", ("call", "f"), ("call", "f"), ("return",)))), card_item(li)))
        images = worlds.images_for(world)
        machine = Machine(images[0], images[1], (), late=True)
        self.assertEqual(len(machine.held()[2]), 1)
        machine.go(3)
        self.assertEqual(machine.held()[2], ())
        told = moved(world, machine, (images[0],) + images[1])
        slot = told.held()[2]
        self.assertEqual((len(slot), told.held()[3][slot[0]:slot[0] + 2]), (1, (0, 0)))
        # Moved again it is late still, and so is its copy.
        self.assertEqual(moved(world, told.copy(), (images[0],) + images[1]).held()[2], slot)
        early = Machine(images[0], images[1], ())
        early.go(3)
        self.assertEqual(moved(world, early, (images[0],) + images[1]).held()[2], ())
        told.go(9)
        self.assertEqual((told.held()[2], told.state()[3:]), ((), ((("shown", 0),) * 2, ("stopped",))))


class DrawnTest(InStep, unittest.TestCase):
    def moved_once(self, rng, world, machine, images):
        """Moved to these images; or None where it is split."""
        bases = rng.choice((None, worlds.one_bases(rng, images)))
        before = frozen(machine)
        told = raised(moved, world, machine, images, bases)
        due = split_due(machine, images)
        self.assertEqual(frozen(machine), before)
        if due is not None and images == self.linked_scope(world):
            due = None
        if due is not None:
            self.assertEqual(told, due)
            return None
        self.assertEqual(told[0], "told")
        made_anew = told[1]
        frames, others = machine.state()[0], made_anew.state()[0]
        self.assertEqual([(n, r) for n, _, r in frames], [(n, r) for n, _, r in others])
        if images != self.linked_scope(world):
            self.assertTrue(all(set(lot) <= set(other) for (_, lot, _), (_, other, _) in zip(frames, others)))
        self.check_cells(machine, made_anew, images, bases)
        return made_anew

    def check_cells(self, machine, made_anew, images, bases):
        """Memory is as it is loaded, but for data and rooms, which are as they were; and late slots."""
        cells = list(memory(images[0], images[1:], bases))
        unbound = []
        for k, (image, base) in enumerate(zip(images, made_anew.bases)):
            for position, _, late in image[7]:
                if machine.late and late:
                    unbound.append(base + position)
                    cells[base + position:base + position + 2] = [0, 0]
            held = {e[2]: (machine.bases[k] + e[0], machine.bases[k] + e[1]) for e in machine.images[k][12] if e[0] >= machine.images[k][11][3]}
            for start, end, lot, _ in image[12]:
                if start >= image[11][3] and lot in held:
                    cells[base + start:base + end] = machine.held()[3][slice(*held[lot])]
        self.assertEqual(made_anew.held()[2:], (tuple(sorted(unbound)), tuple(cells)))

    def linked_scope(self, world):
        return tuple(linked(world[k][2], world[k][1]) for k in plainrun.scope_of(world))

    def one_scope(self, rng, world):
        return tuple(one_carrying(rng, world[k][2], world[k][1]) for k in plainrun.scope_of(world))

    def test_in_step(self):
        """HEART: moved between any two rows, as often as one likes, it stays in step with the names."""
        seen = {"moved": 0, "split": 0}
        for seed in range(250):
            rng = random.Random(seed)
            world = worlds.alike_world(rng) if rng.random() < 0.5 else worlds.one_world(rng)
            inputs = worlds.one_inputs(rng)
            some = [self.one_scope(rng, world) for _ in range(3)] + [self.linked_scope(world)]
            machine = Machine(some[0][0], some[0][1:], inputs, late=rng.random() < 0.5)
            play = Play(world, inputs)
            for _ in range(40):
                self.check_row(play, machine, self.bodies(world, machine.images))
                if rng.random() < 0.5 and machine.state()[4] is None:
                    made_anew = self.moved_once(rng, world, machine, rng.choice(some))
                    seen["split" if made_anew is None else "moved"] += 1
                    machine = made_anew or machine
                    self.check_row(play, machine, self.bodies(world, machine.images))
                going = play.step()
                self.assertIs(machine.step(), going)
                if not going:
                    break
        self.assertGreater(seen["moved"], 500, seen)
        self.assertGreater(seen["split"], 30, seen)

    def test_to_the_linked_images_always(self):
        """HEART: Split is never raised then, whatever carries."""
        many = 0
        for seed in range(120):
            rng = random.Random(seed)
            world, inputs = worlds.one_world(rng), worlds.one_inputs(rng)
            images = self.one_scope(rng, world)
            machine = Machine(images[0], images[1:], inputs)
            for _ in range(12):
                if machine.state()[4] is not None:
                    break
                self.assertIsNotNone(self.moved_once(rng, world, machine, self.linked_scope(world)))
                machine.step()
                many += 1
        self.assertGreater(many, 300)

    def test_the_showing_stays(self):
        """[180]: what is shown in the end is what is shown by names, its trace too."""
        for seed in range(100):
            rng = random.Random(seed)
            world, inputs = worlds.one_world(rng), worlds.one_inputs(rng)
            images = self.linked_scope(world)
            machine = Machine(images[0], images[1:], inputs, late=True)
            while machine.state()[4] is None and machine.go(rng.randrange(1, 9)):
                if machine.state()[4] is None:
                    machine = moved(world, machine, images, worlds.one_bases(rng, images))
                if len(machine.state()[3]) > 30 or rng.random() < 0.03:
                    break
            rest = machine.state()
            if rest[4] is None:
                continue
            self.assertEqual(run_images(images[0], images[1:], inputs, 2000)[0], rest[3])
            self.assertEqual(run_world(world, inputs, 2000)[0], rest[3])
            self.assertEqual(run_images(images[0], images[1:], inputs, 2000)[1], rest[4])


class WrongTest(unittest.TestCase):
    def ended(self, unit_rows, inputs=()):
        line = (item(made("u", code("main", *unit_rows))),)
        machine = Machine(linked(line, MAIN), (), inputs)
        machine.go(50)
        machine.step()
        return (("plan", MAIN, line),), machine

    def test_no_machines(self):
        right = Machine(IMAGE, (), ())
        for thing in WEIRD + (Machine, IMAGE, right.state(), Play(WORLD, ())):
            self.assertEqual(raised(moved, WORLD, thing, (IMAGE,)), ("BadMachine", {}))
            self.assertEqual(raised(moved, WORLD, thing, None, "no bases"), ("BadMachine", {}))
        for rows, end in (((("stop",),), "stopped"), ((("return",),), "stopped"), ((("fail", 3),), "fails"), ((("ask", 0), ("stop",)), "waits")):
            world, machine = self.ended(rows)
            self.assertEqual(machine.state()[4][0], end)
            self.assertEqual(raised(moved, world, machine, machine.images), ("BadMachine", {}))
        # At an ask without inputs it stands at no end yet.
        line = (item(made("u", code("main", ("ask", 0), ("stop",)))),)
        machine = Machine(linked(line, MAIN), (), ())
        self.assertEqual(raised(moved, (("plan", MAIN, line),), machine, machine.images)[0], "told")
        machine.step()
        self.assertEqual(raised(moved, (("plan", MAIN, line),), machine, machine.images), ("BadMachine", {}))

    def test_machines_of_other_plans(self):
        other = (program(item(made("u", code("main", ("show", 0), ("return",))))),)
        self.assertEqual(raised(moved, other, Machine(IMAGE, (), ()), None), ("BadMachine", {}))
        wrong = IMAGE[:10] + ((14, 0) + IMAGE[10][2:],) + IMAGE[11:]
        self.assertEqual(raised(moved, WORLD, Machine(wrong, (), ()), (IMAGE,)), ("BadMachine", {}))
        # A library of the scope that the world does not have; or another one of its name.
        li = lib("li", item(made("v", code("f", ("show", 0), ("return",)))))
        lo = lib("li", item(made("v", code("f", ("show", 1), ("return",)))))
        main = program(item(made("u", calls("main", "f"))), card_item(li))
        program_image, libraries = worlds.images_for((li, main))
        machine = Machine(program_image, libraries, ())
        self.assertEqual(raised(moved, WORLD, machine, None), ("BadMachine", {}))
        self.assertEqual(raised(moved, (lo, main), machine, None), ("BadMachine", {}))
        self.assertEqual(raised(moved, (li, main), machine, (program_image,) + libraries)[0], "told")
        # Other plans of the world count nothing, but that they can be named.
        more = lib("more", item(made("v", code("k"))))
        self.assertEqual(raised(moved, (more, li, main), machine, (program_image,) + libraries)[0], "told")
        bad = lib("more", item(made("v", calls("k", "zz"))))
        self.assertEqual(raised(moved, (bad, li, main), machine, None), ("Missing", {"names": ("zz",)}))

    def test_no_images(self):
        li = lib("li", item(made("v", code("f", ("show", 0), ("return",)))))
        lo = lib("lo", item(made("w", code("g", ("show", 0), ("return",)))))
        world = (li, lo, program(item(made("u", calls("main", "f", "g"))), card_item(lo), card_item(li)))
        program_image, (one, other) = worlds.images_for(world)
        machine = Machine(program_image, (one, other), ())
        self.assertEqual([i[1] for i in machine.images], ["", "lo", "li"])
        right = (program_image, other, one)
        self.assertEqual(raised(moved, world, machine, right)[0], "told")
        for thing in WEIRD + (list(right), right[:2], right + (one,), (program_image, one, other), (other, program_image, one), (program_image, other, None),
                              (program_image, other, other), (program_image, other, IMAGE), (IMAGE, other, one), (None, other, one)):
            self.assertEqual(raised(moved, world, machine, thing), ("BadImages", {}))
            self.assertEqual(raised(moved, world, machine, thing, "no bases"), ("BadImages", {}))
        for k, image in enumerate(right):
            for at, c in enumerate(image[10]):
                wrong = image[:10] + (image[10][:at] + ((c + 1) % 64,) + image[10][at + 1:],) + image[11:]
                self.assertEqual(raised(moved, world, machine, right[:k] + (wrong,) + right[k + 1:]), ("BadImages", {}))

    def test_bases(self):
        machine = Machine(IMAGE, (), ())
        for thing in WEIRD + ((0,), (4085,), (1, 2), [1], (True,), (1.0,)):
            if thing is not None:
                self.assertEqual(raised(moved, WORLD, machine, (IMAGE,), thing), ("BadBases", {}))
        self.assertEqual(moved(WORLD, machine, (IMAGE,), (4084,)).held()[0], 4084)

    def test_too_wide(self):
        """The errors of memory come last: TooWide, where the new images are too wide for the least bases."""
        def wide(goal, x, last, *more):
            rooms = [piece("r" + chr(97 + k), "room", 64, "own") for k in range(18)] + [piece("ry", "room", last, "own")]
            if x == "main":
                rooms += [piece("rx", "room", 64, "own"), piece("rz", "room", 20, "own")]
            loads = [("load", 0, p[1], 0) for p in rooms]
            made_up = made("u", code(x, *loads, *[("call", "g")] * 15, ("return",)), code("g", ("show", 0), ("return",), reach="own"), *rooms)
            return ("plan", goal, (item(made_up),) + more)

        for last in (60, 61, 62, 63, 64):
            la, lb = wide(("library", "la"), "fa", 64), wide(("library", "lb"), "fb", 64)
            world = (la, lb, wide(MAIN, "main", last, card_item(la), card_item(lb)))
            images = [linked(world[k][2], world[k][1]) for k in (2, 0, 1)]
            machine = Machine(images[0], tuple(images[1:]), ())
            longer = [image_with(read_back(i), branches(read_back(i))) for i in images]
            for k in range(3):
                mixed = tuple(longer[:k] + images[k:])
                cells = sum(i[11][5] for i in mixed)
                self.assertEqual(raised(moved, world, machine, mixed)[0], "TooWide" if cells > 4095 else "told")
                self.assertEqual(raised(moved, world, machine, mixed, (1, 1, 1)), ("BadBases", {}))
            self.assertLess(sum(i[11][5] for i in images), 4096)
            self.assertEqual(raised(moved, world, machine, tuple(longer)), ("TooWide", {"cells": sum(i[11][5] for i in longer)}))

    def test_worlds_ahead_of_all(self):
        for thing in WEIRD + ((), WORLD + WORLD, [WORLD[0]]):
            self.assertEqual(raised(moved, thing, None, None, "no bases"), ("BadWorld", {}))
        self.assertEqual(raised(moved, (program(item(made("u", calls("main", "zz")))),), None, None), ("Missing", {"names": ("zz",)}))


class SpeedTest(unittest.TestCase):
    def test_many_calls_end(self):
        began = time.process_time()
        many = 0
        for seed in range(60):
            rng = random.Random(seed)
            world, inputs = worlds.one_world(rng), worlds.one_inputs(rng)
            images = tuple(linked(world[k][2], world[k][1]) for k in plainrun.scope_of(world))
            bundle = bundle_of(world[-1][2], world[-1][1])
            others = (image_with(bundle, grown(bundle, branches(bundle))),) + images[1:]
            machine = Machine(images[0], images[1:], inputs)
            for k in range(20):
                if machine.state()[4] is not None:
                    break
                machine = moved(world, machine, (images, others)[k % 2])
                machine.step()
                many += 1
        self.assertGreater(many, 300)
        self.assertLess(time.process_time() - began, 20)


if __name__ == "__main__":
    unittest.main()
