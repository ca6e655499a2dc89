"""THE HEART: what a loaded world shows is what it shows by names, however its images were made."""

import random
import unittest

from onebase.apart import taken_apart
from onebase.bundles import bundle_of
from onebase.carrying import carries
from onebase.deeds import after
from onebase.files import file_of, read_file
from onebase.images import image_with, linked
from onebase.keeping import kept
from onebase.loading import bases_for, memory, scope
from onebase.machine import Machine, run_images
from onebase.objects import assembled, unit_of
from onebase.parting import classes
from onebase.patches import patched
from onebase.playing import run_world
from onebase.readback import long_in, read_back
from onebase.relinking import Relinker
from onebase.sizes import is_paper, paper, weight
from onebase.taking import members
from onebase.texts import read_unit, unit_text
from onebase.traces import lies_in
from onebase.webs import web_of
from onebase.widths import forced, is_forced
from tests import worlds
from tests.instep import InStep, one_carrying
from tests.support import calls, code, item, made, piece, raised
from tests.test_meaning import card_item, lib, program


def drawn(seed):
    rng = random.Random(seed)
    return rng, worlds.one_world(rng), worlds.one_inputs(rng)


class InStepTest(InStep, unittest.TestCase):
    def test_linked_images(self):
        ends = {}
        for seed in range(250):
            rng, world, inputs = drawn(seed)
            told, libraries = worlds.images_for(world)
            images = scope(told, libraries)
            bases = rng.choice((None, worlds.one_bases(rng, images)))
            machine = Machine(told, libraries, inputs, bases, rng.random() < 0.5)
            end = (self.check(world, machine, inputs) or ("cut",))[0]
            ends[end] = ends.get(end, 0) + 1
        self.assertEqual(set(ends), {"stopped", "fails", "waits", "cut"})

    def test_what_is_written(self):
        """No cell is ever written but those of data and rooms, and late slots once."""
        written = 0
        for seed in range(250):
            rng, world, inputs = drawn(seed)
            told, libraries = worlds.images_for(world)
            machine = Machine(told, libraries, inputs, late=True)
            early, before = memory(told, libraries), machine.held()[3]
            unbound = machine.held()[2]
            machine.go(150)
            after_all = machine.held()
            for address, (x, y) in enumerate(zip(before, after_all[3])):
                if x == y:
                    continue
                k, position = machine.spot(address)
                ends = machine.images[k][11]
                if ends[2] <= position < ends[3]:
                    slot = address - (position - ends[2]) % 2
                    self.assertIn(slot, unbound)
                    self.assertNotIn(slot, after_all[2])
                    self.assertEqual(y, early[address])
                else:
                    self.assertGreaterEqual(position, ends[3])
                    written += 1
        self.assertGreater(written, 4)

    def test_all_that_carry(self):
        """[91]: any image that carries a plan shows what it means: with more branches long, with bodies otherwise."""
        others = more = 0
        for seed in range(200):
            rng, world, inputs = drawn(seed)
            images = [one_carrying(rng, line, goal) for _, goal, line in world]
            others += sum(image != linked(line, goal) for image, (_, goal, line) in zip(images, world))
            more += sum(len(image[12]) > len(linked(line, goal)[12]) for image, (_, goal, line) in zip(images, world))
            machine = Machine(images[-1], tuple(images[:-1]), inputs, late=rng.random() < 0.5)
            self.check(world, machine, inputs, 60)
        self.assertGreater(others, 100)
        self.assertGreater(more, 50)

    def test_two_bodies_for_one_class(self):
        """[95]: a body for each of two alike, called in turn."""
        get = (("load", 0, "pair", 1), ("return",))
        unit = made("u", code("main", ("call", "get"), ("call", "twin"), ("return",)), code("get", *get, reach="own"),
                    code("twin", *get, reach="own"), piece("pair", "const", (5, 7), "own"))
        world = (program(item(unit)),)
        bundle = bundle_of(world[0][2], world[0][1])
        self.assertEqual([part[2] for part in bundle[7]], [
            (("u", "main"),), (("u", "get"), ("u", "twin")), (("u", "pair"),)])
        body = bundle[7][1][3]
        both = bundle[7][1][2]
        for first, second, lots in ((1, 2, (both[:1], both[1:])), (1, 2, (both, both)), (2, 1, (both, both)), (2, 2, (both[:1], both))):
            parts = (bundle[7][0][:3] + ((("call", first), ("call", second), ("return",)),),
                     ("body", "code", lots[0], (("load", 0, 3, 1), ("return",))),
                     ("body", "code", lots[1], (("load", 0, 3, 1), ("return",))), bundle[7][2])
            other = bundle[:7] + (parts,)
            image = image_with(other, ())
            self.assertTrue(carries(world[0][2], world[0][1], image))
            self.check(world, Machine(image, (), ()), ())
        self.assertEqual(body, (("load", 0, 2, 1), ("return",)))


class HeartTest(unittest.TestCase):
    def check(self, world, images, inputs, rng, same_names=True):
        """run_images shows what run_world shows."""
        scoped = scope(images[-1], tuple(images[:-1]))
        bases = rng.choice((None, bases_for(scoped[0], images[:-1]), worlds.one_bases(rng, scoped)))
        for most in (0, 5, 120):
            events, end = run_world(world, inputs, most)
            other = run_images(images[-1], tuple(images[:-1]), inputs, most, bases, rng.random() < 0.5)
            self.assertEqual(events, other[0])
            self.assertEqual(end[:2], other[1][:2])
            if end[0] == "fails":
                self.assertEqual([f[0] for f in end[2]], [f[0] for f in other[1][2]])
                self.assertEqual([f[3] for f in end[2]], [f[2] for f in other[1][2]])
                if same_names:
                    self.assertTrue(lies_in(end[2], other[1][2]))

    def test_from_texts_to_showings(self):
        """[27]: texts, units, objects as files, read, linked, images as files, read, loaded and run."""
        for seed in range(120):
            rng, world, inputs = drawn(seed)
            plans, images = [], []
            for _, goal, line in world:
                items = tuple(self.rewritten(one) for one in line)
                self.assertEqual(items, line)
                plans.append(("plan", goal, items))
                images.append(read_file(file_of(linked(items, goal))))
            self.check(tuple(plans), tuple(images), inputs, rng)

    def rewritten(self, one):
        """An item whose objects were written as texts and as files, its archives as files, and read back."""
        if one[0] == "library":
            return one
        if one[0] == "round":
            return ("round", tuple(self.rewritten(a) for a in one[1]))
        if one[0] == "object":
            return ("object", self.reassembled(one[1]))
        made_up = ("archive", one[1], tuple(self.reassembled(thing) for thing in one[2]))
        return read_file(list(file_of(made_up)))

    def reassembled(self, thing):
        text = unit_text(unit_of(thing))
        cells = file_of(assembled(read_unit(text.replace("\n", "\n \n"))))
        self.assertTrue(all(type(c) is int and 0 <= c <= 63 for c in cells))
        return read_file(list(cells))

    def test_taken_apart_and_linked_again(self):
        """[26]: the unit links to the same image, in all but its book and its wants."""
        many = 0
        for seed in range(120):
            rng, world, inputs = drawn(seed)
            images = []
            for _, goal, line in world:
                image = linked(line, goal)
                cards = {i[1][1]: i for i in line if i[0] == "library"}
                try:
                    unit, told_goal = taken_apart(image)
                except ValueError as e:
                    self.assertEqual(type(e).__name__, "TooMany")
                    break
                again = linked(tuple(cards[x] for x in image[3]) + (("object", assembled(unit)),), told_goal)
                self.assertEqual(again[:4] + again[5:12], image[:4] + image[5:12])
                images.append(again)
            else:
                many += 1
                self.check(world, tuple(images), inputs, rng, False)
        self.assertGreater(many, 100)

    def test_linked_again_after_deeds(self):
        """Whatever was done and taken back in between: what is linked is the line as it is."""
        for seed in range(60):
            rng, world, inputs = drawn(seed)
            images = []
            for _, goal, line in world:
                was = line, goal
                more = item(assembled(worlds.one_unit(rng, "more", ())))
                at = rng.randrange(len(line) + 1)
                line, goal = after(line, goal, ("put", at, more))
                line, goal = after(line, goal, ("take", at))
                if line:
                    gone = rng.choice([k for k, i in enumerate(line) if i[0] == "object"] or [None])
                    if gone is not None:
                        held = line[gone]
                        line, goal = after(line, goal, ("exchange", gone, more))
                        line, goal = after(line, goal, ("exchange", gone, held))
                self.assertEqual((line, goal), was)
                images.append(linked(line, goal))
            self.check(world, tuple(images), inputs, rng)

    def test_relinked_by_patches(self):
        """[61]: whoever did all patches in order has the files; behind deeds and undos the images show the same."""
        for seed in range(60):
            rng, world, inputs = drawn(seed)
            images = []
            for _, goal, line in world:
                more = item(assembled(worlds.one_unit(rng, "more", ())))
                held, file = Relinker(line, goal), ()
                for _ in range(rng.randrange(6)):
                    at = rng.randrange(len(held.line()) + 1)
                    deed = rng.choice((("put", at, more), ("take", at), ("exchange", at, more), ("goal", ("library", "zl"))))
                    raised(held.do, deed)
                    told = raised(held.release)
                    if told[0] == "told":
                        self.assertEqual(told[1][0], file)
                        file = patched(file, told[1][1])
                while held.undo():
                    pass
                self.assertEqual((held.line(), held.goal()), (line, goal))
                old, patch = held.release()
                self.assertEqual(old, file)
                images.append(read_file(patched(file, patch)))
                self.assertEqual(images[-1], linked(line, goal))
            self.check(world, tuple(images), inputs, rng)

    def test_each_is_least_and_has_a_paper(self):
        """[180]: the pieces kept, the bodies and the long branches, each with a paper that a judge takes."""
        long = 0
        for seed in range(120):
            rng, world, _ = drawn(seed)
            for _, goal, line in world:
                web, image = web_of(line, goal), linked(line, goal)
                bundle = read_back(image)
                self.assertEqual(bundle, bundle_of(line, goal))
                self.assertIs(is_paper(web, classes(web), paper(web)), True)
                self.assertIs(is_forced(bundle, forced(bundle)), True)
                self.assertEqual(tuple(sorted(forced(bundle))), long_in(image))
                self.assertIs(carries(line, goal, image), True)
                # Each body is of kept pieces, and of each kept one there is one.
                units = [o[1] for o in members(line, goal)]
                pairs = {pair for _, _, lot, _ in image[12] for pair in lot}
                self.assertEqual(pairs, {(units[web[3][k][1][0]], web[3][k][1][1]) for k in kept(web)})
                self.assertEqual((len(bundle[7]), sum(part[3] if part[1] == "room" else len(part[3]) for part in bundle[7])), weight(web, classes(web)))
                other = one_carrying(rng, line, goal)
                self.assertGreaterEqual(len(other[12]), len(image[12]))
                long += len(long_in(image))
        self.assertGreater(long, 5)

    def test_a_world_by_hand(self):
        """A try over a library's code, which fails in a body that another piece shares."""
        f = code("f", ("call", "g"), ("return",))
        g = code("g", ("show", 1), ("fail", 9), reach="own")
        h = code("h", ("show", 1), ("fail", 9), reach="own")
        li = lib("li", item(made("v", f, g)), item(made("w", code("k", ("call", "h"), ("return",)), h)))
        main = made("u", code("main", ("try", "f", 1), ("show", 0), ("call", "k"), ("return",)))
        world = (li, program(item(main), card_item(li)))
        told, libraries = worlds.images_for(world)
        trace = (("li", "w", "h", 1), ("li", "w", "k", 0), ("", "u", "main", 2))
        shown = (("shown", 0), ("shown", 9), ("shown", 0))
        self.assertEqual(run_world(world, (), 99), (shown, ("fails", 9, trace)))
        for late in (False, True):
            events, end = run_images(told, libraries, (), 99, late=late)
            self.assertEqual((events, end[:2]), (shown, ("fails", 9)))
            self.assertEqual([len(frame[1]) for frame in end[2]], [2, 2, 1])
            self.assertTrue(lies_in(trace, end[2]))

    def test_calls_of_a_pieces_own_names(self):
        world = (program(item(made("u", calls("main", "f"), code("f", ("show", 2), ("return",), reach="own")))),)
        self.check(world, (worlds.images_for(world)[0],), (), random.Random(1))


if __name__ == "__main__":
    unittest.main()
