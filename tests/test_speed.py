"""That many small calls end, and that what is passed is taken apart once in a call."""

import random
import time
import unittest
from unittest import mock

from onebase import naming as naming_module
from onebase import objects, parts
from onebase.bundles import bundle_of
from onebase.carrying import carries, covers
from onebase.deeds import after
from onebase.desk import Desk
from onebase.images import linked
from onebase.lines import is_line
from onebase.loading import bindings, memory
from onebase.machine import Machine, run_images
from onebase.meaning import instances, is_world, namings
from onebase.naming import leads_to, naming
from onebase.objects import assembled
from onebase.playing import Play, run_world
from onebase.taking import members
from onebase.webs import web_of
from tests import plainlink, worlds
from tests.making import one_goal, whole_line
from tests.support import raised


def long_line():
    """The line of six objects of four pieces with seven rows each."""
    made = []
    for k in range(6):
        ahead = "p" + chr(97 + (k + 1) % 6) + "a"
        rows = (("set", 0, 1), ("call", ahead), ("plus", 0, 1), ("if", 0, 0), ("show", 0), ("goto", 0), ("return",))
        pieces = tuple(("piece", "p" + chr(97 + k) + chr(97 + j), "code", "open", "strong", rows) for j in range(4))
        made.append(("object", assembled(("unit", "u" + chr(97 + k), (), (), pieces))))
    return tuple(made), ("program", "paa")


class SpeedTest(unittest.TestCase):
    def taken_apart(self, f, *told):
        """How often a call takes an object apart."""
        seen = []

        def watched(thing):
            seen.append(thing)
            return objects.unit_in(thing)

        with mock.patch.object(parts, "unit_in", watched), mock.patch.object(naming_module, "unit_in", watched):
            f(*told)
        return len(seen)

    def test_each_object_is_taken_apart_once(self):
        line, goal = long_line()
        for f in (members, naming, web_of, bundle_of, linked):
            self.assertEqual(self.taken_apart(f, line, goal), 6, f)
        for f, thing in ((covers, bundle_of(line, goal)), (carries, linked(line, goal)), (after, ("take", 1))):
            self.assertEqual(self.taken_apart(f, line, goal, thing), 6, f)
        self.assertEqual(self.taken_apart(is_line, line), 6)
        named = naming(line, goal)
        for m, x in ((None, "paa"), (0, "paa"), (0, "pba"), (5, "paa")):
            self.assertEqual(self.taken_apart(leads_to, named, m, x), 6)

    def test_reading_is_linear_in_the_items(self):
        """A unit's object of the greatest size is read in about its own time."""
        rows = (("call", "f"), ("set", 0, 1)) * 19 + (("if", 0, 3), ("return",))
        pieces = tuple(("piece", "p" + chr(97 + j), "code", "open", "strong", rows) for j in range(24))
        thing = assembled(("unit", "u", (), (), pieces))
        began = time.process_time()
        for _ in range(100):
            objects.unit_of(thing)
        self.assertLess(time.process_time() - began, 10)

    def test_many_calls_end(self):
        line, goal = long_line()
        began = time.process_time()
        for _ in range(400):
            members(line, goal)
            naming(line, goal)
        told = 0
        for seed in range(300):
            rng = random.Random(seed)
            goal = one_goal(rng)
            line = list(whole_line(rng, goal))
            for _ in range(4):
                raised(members, tuple(line), goal)
                named = raised(naming, tuple(line), goal)
                if named[0] == "told":
                    told += self.ask_all(named[1])
                rng.shuffle(line)
        self.assertGreater(told, 2000)
        self.assertLess(time.process_time() - began, 20)

    def test_many_runs_end(self):
        """Worlds loaded and run for some hundred rows, early and late, whole and row by row."""
        drawn = [worlds.one_world(random.Random(seed)) for seed in range(60)]
        line, goal = long_line()
        drawn.append((("plan", goal, line),))
        images = [worlds.images_for(world) for world in drawn]
        began = time.process_time()
        for _ in range(10):
            for world, (program, libraries) in zip(drawn, images):
                run_world(world, (1, 2, 3), 400)
                for late in (False, True):
                    run_images(program, libraries, (1, 2, 3), 400, None, late)
                memory(program, libraries)
                bindings(program, libraries)
                instances(world)
        for world, (program, libraries) in zip(drawn, images):
            play, machine = Play(world, ()), Machine(program, libraries, ())
            for _ in range(200):
                play.state(), machine.state(), machine.held(), machine.copy()
                if not play.step() or not machine.step():
                    break
        self.assertLess(time.process_time() - began, 20)

    def test_a_plan_is_taken_apart_once(self):
        line, goal = long_line()
        world = (("plan", goal, line),)
        for f, more in ((is_world, ()), (namings, ()), (instances, ()), (run_world, ((), 50)), (Play, ((),))):
            self.assertEqual(self.taken_apart(f, world, *more), 6)

    def test_the_desk_answers_soon(self):
        began = time.process_time()
        for _ in range(300):
            desk = Desk()
            for text in ("unit v\ncode f open\nshow 1\nreturn", "line v", "library li", "unit m\ncode main open\ncall f\nreturn",
                         "line m li", "program main", "run", "machine", "size", "cells", "listing", "kept", "members", "undo"):
                desk.say(text)
        self.assertLess(time.process_time() - began, 20)

    def ask_all(self, named):
        many = 0
        for m, made in enumerate(named[2]):
            for x in sorted({p[1] for p in plainlink.pieces_of(made)} | plainlink.led(made)):
                leads_to(named, m, x)
                many += 1
        return many


if __name__ == "__main__":
    unittest.main()
