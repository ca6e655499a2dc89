import random
import unittest

from onebase.lines import is_card
from onebase.loading import are_bases, bases_for, beginnings, bindings, card_of, is_let, memory, scope
from onebase.readback import is_image
from tests import plainimage, plainlink, plainrun, worlds
from tests.support import WEIRD, near, raised, weird_near


def image(name="", needs=(), exports=(), wants=(), slots=(), fills=(), starts=(), more=0, tables=0, rooms=0):
    """An image of one body: a stop, so many cells of stops more; then tables, the slots, and rooms."""
    text = 1 + more
    ends = (text, text, text + 2 * tables, text + 2 * (tables + len(slots)), text + 2 * (tables + len(slots)),
            text + 2 * (tables + len(slots)) + rooms)
    held = tuple((ends[2] + 2 * k, x, late) for k, (x, late) in enumerate(slots))
    book = ((0, text, (("u", "f"),), (0,)),)
    book += ((ends[1], ends[2], (("u", "t"),), ()),) * (tables > 0) + ((ends[4], ends[5], (("u", "r"),), ()),) * (rooms > 0)
    made = ("image", name, None if name else 0, needs, wants, starts, exports, held, fills, (), (22,) * text + (0,) * (
        ends[4] - text), ends, book)
    assert is_image(made)
    return made


def big(name, size, needs=()):
    """An image of so many cells and rooms."""
    return image(name, needs, more=size - 1)


CODE = (("f", "code", 0, 0),)
FUNCTIONS = (scope, beginnings, bindings, is_let, bases_for, memory)


class CardTest(unittest.TestCase):
    def test_cards(self):
        lib = image("li", ("lo",), (("f", "code", 0, 0),), (("g", "data", 3, False),))
        self.assertEqual(card_of(lib), ("card", "li", ("lo",), (("f", "code", 0),), (("g", "data", 3, False),)))
        self.assertTrue(is_card(card_of(lib)))
        self.assertEqual(card_of(image=image(needs=("li",), exports=(("d", "data", 1, 2),), more=1)),
                         ("card", "", ("li",), (("d", "data", 2),), ()))

    def test_what_is_no_image(self):
        for thing in WEIRD:
            self.assertEqual(raised(card_of, thing), ("BadImage", {}))
        some = image("li", ("lo",), CODE, (("g", "data", 3, False),), (("g", False),))
        for other, _ in near(some):
            if not plainimage.is_image(other):
                self.assertEqual(raised(card_of, other), ("BadImage", {}))


class ScopeTest(unittest.TestCase):
    def test_needed_ones_in_order(self):
        li, lo, la = image("li"), image("lo", ("li",)), image("la")
        program = image(needs=("lo", "li"))
        self.assertEqual(scope(program, (la, li, lo)), (program, lo, li))
        self.assertEqual(scope(libraries=(lo, li), program=program), (program, lo, li))
        self.assertEqual(scope(image(), (la,)), (image(),))
        self.assertEqual(scope(image(), ()), (image(),))

    def test_what_lacks(self):
        for needs, libraries, name in (
                (("li",), (), "li"), (("li", "lo"), (image("lo"),), "li"), (("lo", "li"), (image("lo"),), "li"),
                (("li",), (image("li", ("lo",)),), "lo"), (("li",), (image("li", ("lo",)), image("lo")), "lo"),
                (("li", "lo"), (image("lo", ("zz", "la")), image("li", ("lo", "la"))), "la"),
                (("lo", "li"), (image("lo", ("zz", "la")), image("li", ("lo", "la"))), "zz"),
                (("li", "lo"), (image("li", ("la",)),), "lo")):
            for f in FUNCTIONS:
                if f is is_let:
                    self.assertIs(is_let(image(needs=needs), libraries), False)
                else:
                    self.assertEqual(raised(f, image(needs=needs), libraries), ("NoLibrary", {"name": name}), f)

    def test_wrong_images(self):
        li, lo = image("li"), image("lo")
        self.assertEqual(len(scope(image(needs=("li",)), (li, image("le", ("la",))))), 2)
        for f in FUNCTIONS:
            for thing in WEIRD:
                self.assertEqual(raised(f, thing, (li,)), ("BadImage", {}))
                if type(thing) is not tuple or thing:
                    self.assertEqual(raised(f, image(), thing), ("BadImages", {}))
                self.assertEqual(raised(f, image(), (li, thing)), ("BadImages", {}))
            for libraries in ([li], (li, li), (li, image("li", ("lo",))), (image(),), (li, lo, image()), (li, list(lo)),
                              li, {li: True}):
                self.assertEqual(raised(f, image(needs=("le",)), libraries), ("BadImages", {}))
            self.assertEqual(raised(f, li, (li,)), ("BadImage", {}))
            self.assertEqual(raised(f, li, [lo]), ("BadImage", {}))

    def test_near_images(self):
        some = image("li", (), CODE, (("f", "code", 0, False),), (("f", True),))
        for other, _ in near(some):
            told = plainimage.is_image(other) and other[1] != ""
            self.assertEqual(raised(scope, image(), (other,))[0], "told" if told else "BadImages")
            told = plainimage.is_image(other) and other[1] == "" and other[3] == ()
            self.assertEqual(raised(scope, other, ())[0] == "told", told)


class BeginningsTest(unittest.TestCase):
    def test_order_of_the_walk(self):
        def named(name, needs, *starts):
            return image(name, needs, starts=starts, more=9)
        program = image(needs=("la", "lb", "lc"), starts=(7, 3, 3), more=9)
        self.assertEqual(
            beginnings(program, (named("la", (), 1), named("lb", (), 2, 1), named("lc", ()))),
            ((1, 1), (2, 2), (2, 1), (0, 7), (0, 3), (0, 3), (0, 0)))
        # la needs lc, lc needs lb: so lb comes back first.
        self.assertEqual(
            beginnings(program, (named("la", ("lc",), 1), named("lb", (), 2), named("lc", ("lb",), 3))),
            ((2, 2), (3, 3), (1, 1), (0, 7), (0, 3), (0, 3), (0, 0)))
        # They need each other: the walk goes to each once.
        self.assertEqual(
            beginnings(program, (named("la", ("lc",), 1), named("lb", ("la",), 2), named("lc", ("lb",), 3))),
            ((2, 2), (3, 3), (1, 1), (0, 7), (0, 3), (0, 3), (0, 0)))
        self.assertEqual(
            beginnings(program, (named("la", ("lc", "lb"), 1), named("lb", (), 2), named("lc", (), 3))),
            ((3, 3), (2, 2), (1, 1), (0, 7), (0, 3), (0, 3), (0, 0)))
        self.assertEqual(beginnings(image(), ()), ((0, 0),))


class BindingsTest(unittest.TestCase):
    WANTS = (("f", "code", 0, False), ("g", "data", 2, True))

    def test_first_that_exports(self):
        program = image(needs=("li", "lo"), wants=self.WANTS)
        li = image("li", exports=(("f", "code", 3, 0),), wants=self.WANTS, more=5)
        lo = image("lo", exports=(("f", "code", 1, 0), ("g", "data", 2, 2)), more=5)
        self.assertEqual(bindings(program, (lo, li)), (((1, 3), (2, 2)), ((1, 3), (2, 2)), ()))
        self.assertEqual(bindings(image(needs=("lo", "li"), wants=self.WANTS), (lo, li)),
                         (((1, 1), (1, 2)), (), ((1, 1), (1, 2))))
        program = image(needs=("li", "lo"), wants=self.WANTS, exports=(("f", "code", 0, 0),))
        self.assertEqual(bindings(program, (lo, li)), (((0, 0), (2, 2)), ((0, 0), (2, 2)), ()))
        self.assertEqual(bindings(program, (image("lo"), li)), (((0, 0), None), ((0, 0), None), ()))

    def test_what_is_not_let(self):
        def check(told, *libraries, wants=self.WANTS):
            program = image(needs=tuple(i[1] for i in libraries), wants=wants)
            expected = told if told is None else ("NotLet", dict(zip(("image", "name", "why"), told)))
            for f in (bindings, memory):
                answer = raised(f, program, libraries)
                self.assertEqual(answer[0] == "told", told is None)
                if told is not None:
                    self.assertEqual(answer, expected)
            self.assertIs(is_let(program, libraries), told is None)

        f, g = ("f", "code", 0, 0), ("g", "data", 1, 2)
        check(None, image("li", exports=(f, g), more=4))
        check(None, image("li", exports=(f,), more=4))
        check(("", "f", "lacks"), image("li", exports=(g,), more=4))
        check(("", "f", "lacks"), image("li"))
        check(("", "f", "sort"), image("li", exports=(("f", "data", 0, 1), g), more=4))
        check(("", "g", "sort"), image("li", exports=(f, ("g", "cells", 0, 2)), more=4))
        check(("", "g", "length"), image("li", exports=(f, ("g", "data", 0, 1)), more=4))
        check(("", "g", "sort"), image("li", exports=(f, ("g", "cells", 0, 1)), more=4))
        # The first that exports counts, be it wrong; and the first want of the first image is told.
        check(("", "g", "length"), image("li", exports=(f, ("g", "data", 0, 1)), more=4), image("lo", exports=(g,), more=4))
        check(None, image("li", exports=(f, g), more=4), image("lo", exports=(("g", "data", 0, 1),), more=4))
        check(("li", "h", "lacks"), image("li", exports=(f,), wants=(("h", "code", 0, False),)),
              image("lo", wants=(("f", "data", 1, False),)))
        check(("lo", "f", "sort"), image("li", exports=(f,), wants=(("h", "code", 0, True),)),
              image("lo", wants=(("f", "data", 1, True),)))
        check(("", "x", "lacks"), image("li", exports=(f,)), wants=(("x", "code", 0, False), ("y", "code", 0, False)))

    def test_hang_on_cards_alone(self):
        rng = random.Random(5)
        for seed in range(200):
            rng = random.Random(seed)
            program, libraries = worlds.one_scope(rng)
            others = tuple(self.other_cells(rng, i) for i in (program,) + libraries)
            for f in (is_let, bindings, beginnings):
                one, other = raised(f, program, libraries), raised(f, others[0], others[1:])
                if one[0] != "told" or f is is_let:
                    self.assertEqual(one, other)
                elif f is bindings:
                    self.assertEqual([[p and p[0] for p in held] for held in one[1]],
                                     [[p and p[0] for p in held] for held in other[1]])

    def other_cells(self, rng, i):
        """An image with the same card and starts, of other cells."""
        shift = rng.randrange(1, 4)
        ends = tuple(e + shift for e in i[11])
        entry = None if i[2] is None else i[2] + shift
        made = i[:2] + (entry,) + i[3:5] + (
            tuple(s + shift for s in i[5]), tuple((x, s, at + shift, n) for x, s, at, n in i[6]),
            tuple((at + shift, x, late) for at, x, late in i[7]), (), (), (21,) * shift + i[10], ends,
            ((0, shift, (("n", "n"),), (0,)),) + tuple(
                (a + shift, b + shift, lot, tuple(r + shift for r in rows)) for a, b, lot, rows in i[12]))
        self.assertTrue(is_image(made))
        return made

    def test_drawn_scopes(self):
        seen = {}
        for seed in range(1500):
            program, libraries = worlds.one_scope(random.Random(seed))
            for f in (scope, beginnings, bindings, bases_for, memory):
                told = raised(f, program, libraries)
                self.assertEqual(told, plainlink.outcome(getattr(plainrun, f.__name__), program, libraries), seed)
            self.assertIs(is_let(program, libraries), told[0] == "told")
            why = told[1]["why"] if told[0] == "NotLet" else told[0]
            seen[why] = seen.get(why, 0) + 1
        for why in ("told", "lacks", "sort", "length", "NoLibrary"):
            self.assertGreater(seen[why], 20, why)


class BasesTest(unittest.TestCase):
    def test_least_bases(self):
        program = image(needs=("li", "lo"), more=9, rooms=3)
        self.assertEqual(bases_for(program, (big("lo", 5), image("li", rooms=7))), (1, 14, 22))
        self.assertEqual(bases_for(image(), ()), (1,))

    def scope_of(self, rest):
        """A program of 2000 cells and libraries of 2000 and of so many cells."""
        return big("", 2000, ("li", "lo")), (big("li", 2000), big("lo", rest))

    def test_too_wide(self):
        program, libraries = self.scope_of(95)
        self.assertEqual(bases_for(program, libraries), (1, 2001, 4001))
        self.assertEqual(len(memory(program, libraries)), 4096)
        for rest in (96, 97, 2000):
            program, libraries = self.scope_of(rest)
            for f in (bases_for, memory):
                self.assertEqual(raised(f, program, libraries), ("TooWide", {"cells": 4000 + rest}))
        # That something is not let is told ahead of it; bases that are told are looked at instead of it.
        program = big("", 2000, ("li", "lo"))
        program = program[:4] + ((("f", "code", 0, False),),) + program[5:]
        self.assertEqual(raised(memory, program, libraries), ("NotLet", {"image": "", "name": "f", "why": "lacks"}))
        self.assertEqual(bases_for(big("", 2000, ("li",)), libraries[:1]), (1, 2001))
        program, libraries = self.scope_of(96)
        self.assertEqual(raised(memory, program, libraries, (1, 2001, 4001)), ("BadBases", {}))
        self.assertIs(are_bases(program, libraries, (1, 2001, 4001)), False)

    def test_an_image_without_cells_takes_no_place(self):
        empty = ("image", "lo", None, (), (), (), (), (), (), (), (), (0,) * 6, ())
        program = image(needs=("lo",), more=4)
        self.assertEqual(bases_for(program, (empty,)), (1, 6))
        for bases, right in (((1, 1), True), ((1, 3), True), ((1, 4096), True), ((1, 4097), False), ((1, 0), False),
                             ((4091, 4096), True), ((4092, 1), False), ((1, 6), True)):
            self.assertIs(are_bases(program, (empty,), bases), right)
        self.assertEqual(memory(program, (empty,), (3, 5))[:9], (0, 0, 0, 22, 22, 22, 22, 22, 0))
        program, libraries = big("", 2000, ("li", "la", "lo")), (big("li", 2000), big("la", 95), empty)
        self.assertEqual(bases_for(program, libraries), (1, 2001, 4001, 4096))

    def test_images_of_one_cell(self):
        for bases, right in (((1, 2), True), ((2, 1), True), ((7, 7), False), ((4095, 1), True), ((1, 4096), False)):
            self.assertIs(are_bases(image(needs=("li",)), (image("li"),), bases), right)

    def test_bases(self):
        program, libraries = image(needs=("li", "lo"), more=9), (big("lo", 5), image("li", rooms=7))
        for bases, right in (
                ((1, 11, 19), True), ((100, 50, 58), True), ((100, 50, 57), False), ((10, 1, 20), True),
                ((9, 1, 20), True), ((8, 1, 20), False), ((4086, 1, 20), True), ((4087, 1, 20), False),
                ((1, 11, 4091), True), ((1, 11, 4092), False), ((0, 11, 30), False), ((1, 11), False),
                ((1, 11, 19, 40), False), ([1, 11, 19], False), ((1, 11, True), False), ((1, 11, 19.0), False),
                ((1, 11, "a"), False), ((1, 11, None), False), ((1, 11, -5), False), ((1, 1, 30), False),
                ((30, 30, 60), False), ((1, 11, 10 ** 30), False), ((), False)):
            self.assertIs(are_bases(program, libraries, bases), right, bases)
            self.assertEqual(raised(memory, program, libraries, bases)[0], "told" if right else "BadBases")
        self.assertIs(are_bases(thing=(1, 11, 19), libraries=libraries, program=program), True)
        for thing in WEIRD:
            self.assertIs(are_bases(program, libraries, thing), False)
            if thing is not None:
                self.assertEqual(raised(memory, program, libraries, thing), ("BadBases", {}))
        for other in weird_near((1, 11, 19)):
            self.assertIs(are_bases(program, libraries, other), plainrun.are_bases(program, libraries, other))
        self.assertEqual(raised(are_bases, image(needs=("la",)), libraries, ()), ("NoLibrary", {"name": "la"}))
        self.assertEqual(raised(are_bases, image(needs=("la",)), list(libraries), ()), ("BadImages", {}))
        self.assertEqual(raised(are_bases, libraries[0], list(libraries), ()), ("BadImage", {}))
        # Bases may be told of a scope that is not let.
        self.assertIs(are_bases(image(wants=(("f", "code", 0, False),)), (), (1,)), True)

    def test_drawn_bases(self):
        seen = {True: 0, False: 0}
        for seed in range(400):
            rng = random.Random(seed)
            program, libraries = worlds.one_scope(rng, 0, 0)
            images = scope(program, libraries)
            for _ in range(5):
                bases = tuple(rng.randrange(1, 120) for _ in images)
                told = are_bases(program, libraries, bases)
                self.assertIs(told, plainrun.are_bases(program, libraries, bases))
                seen[told] += 1
            self.assertTrue(are_bases(program, libraries, worlds.one_bases(rng, images)))
            self.assertTrue(are_bases(program, libraries, bases_for(program, libraries)))
        self.assertGreater(min(seen.values()), 200)


class MemoryTest(unittest.TestCase):
    def test_slots_and_fills(self):
        wants = (("f", "code", 0, False), ("g", "data", 2, True), ("h", "code", 0, True))
        program = image(needs=("li",), wants=wants, slots=(("f", True), ("h", True)), tables=3,
                        fills=((1, 0), (3, "f"), (5, "h")))
        li = image("li", exports=(("f", "code", 1, 0), ("g", "data", 2, 2)), wants=(("g", "data", 2, False),),
                   slots=(("g", False),), more=3)
        cells = memory(program, (li,))
        # The program has 22, three items, two slots: 11 cells; the library stands at 12.
        self.assertEqual(cells[:20], (0, 22, 0, 1, 0, 13, 0, 0, 0, 13, 0, 0, 22, 22, 22, 22, 0, 14, 0, 0))
        self.assertEqual(cells[20:], (0,) * 4076)
        cells = memory(program, (li,), (300, 200))
        self.assertEqual(cells[300:311], (22, 300 // 64, 300 % 64, 201 // 64, 201 % 64, 0, 0, 201 // 64, 201 % 64, 0, 0))
        self.assertEqual(cells[200:206], (22, 22, 22, 22, 202 // 64, 202 % 64))
        self.assertEqual(sum(cells), sum(cells[300:311]) + sum(cells[200:206]))
        self.assertEqual(memory(libraries=(li,), bases=(300, 200), program=program), cells)
        self.assertEqual(memory(program, (li,), None), memory(program, (li,)))

    def test_it_is_a_copy(self):
        self.assertIsInstance(memory(image(), ()), tuple)
        self.assertEqual(memory(image(), ()), (0, 22) + (0,) * 4094)
        self.assertEqual(memory(image(), (), (4095,)), (0,) * 4095 + (22,))

    def test_drawn_memories(self):
        told = 0
        for seed in range(300):
            rng = random.Random(seed)
            program, libraries = worlds.one_scope(rng, 0.02, 0)
            if not is_let(program, libraries):
                continue
            told += 1
            bases = worlds.one_bases(rng, scope(program, libraries))
            self.assertEqual(memory(program, libraries, bases), plainrun.memory(program, libraries, bases))
        self.assertGreater(told, 100)


if __name__ == "__main__":
    unittest.main()
