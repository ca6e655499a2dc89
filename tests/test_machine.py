import random
import unittest

from onebase.codes import instruction
from onebase.images import linked
from onebase.loading import bases_for, memory, scope
from onebase.machine import Machine, run_images
from onebase.readback import is_image
from onebase.traces import body_at
from tests import plainrun, worlds
from tests.support import WEIRD, calls, code, item, made, piece, raised
from tests.test_loading import image
from tests.test_meaning import card_item, lib, program


def text_image(*senses, name="", entry=0, needs=(), wants=(), slots=(), exports=(), tries=(), starts=(), data=()):
    """An image of one body with these instructions (sense, many), its slots behind it, then data."""
    cells = tuple(c for sense, many in senses for c in instruction(sense, many))
    text = len(cells)
    ends = (text,) * 3 + (text + 2 * len(slots),) + (text + 2 * len(slots) + len(data),) * 2
    held = tuple((text + 2 * k, x, late) for k, (x, late) in enumerate(slots))
    rows = [sum(many for _, many in senses[:k]) for k in range(len(senses))]
    book = ((0, text, (("u", "f"), ("u", "g")), tuple(rows)),)
    book += ((ends[3], ends[4], (("u", "d"),), ()),) if data else ()
    told = ("image", name, None if name else entry, needs, wants, starts, exports, held, (), tries,
            cells + (0, 0) * len(slots) + tuple(data), ends, book)
    assert is_image(told)
    return told


def shown(*numbers):
    return tuple(("shown", n) for n in numbers)


LOT = (("u", "f"), ("u", "g"))
STOP, RETURN = (("stop",), 1), (("return",), 1)


class InstructionsTest(unittest.TestCase):
    def check(self, told, events, end=("stopped",), libraries=(), inputs=(), base=1, late=False):
        bases = (base,) + tuple(3000 + 100 * k for k in range(len(told[3])))
        self.assertEqual(run_images(told, libraries, inputs, 300, bases, late), (events, end))
        self.assertEqual(plainrun.run_images(told, libraries, inputs, 300, bases, late), (events, end))

    def test_registers(self):
        self.check(text_image((("set", 1, 63), 3), (("copy", 2, 1), 3), (("plus", 2, 1), 3), (("show", 2), 2),
                              (("less", 2, 1), 3), (("show", 2), 2), (("ask", 0), 2), (("show", 0), 2), STOP),
                   shown(62, 1) + (("asked", 7), ("shown", 7)), inputs=[7, 9])
        self.check(text_image((("ask", 0), 2), STOP), (), ("waits",))

    def test_cells(self):
        # The data stand at 20; distances count from behind the instruction.
        told = text_image((("load", 0, 17), 4), (("show", 0), 2), (("set", 1, 5), 3), (("store", 1, 7), 4), (("load", 0, 3), 4),
                          (("show", 0), 2), STOP, data=(8, 9))
        self.check(told, shown(9, 5))
        told = text_image((("load", 0, -1), 4), (("show", 0), 2), STOP)
        self.check(told, shown(63))
        told = text_image((("set", 1, 4), 3), (("item", 0, 1, 3, 9), 6), (("show", 0), 2), (("fill", 1, 1, 3, 1), 6), STOP,
                          data=(8, 9, 7))
        self.check(told, shown(9))
        machine = Machine(told, (), ())
        machine.go(9)
        self.assertEqual(machine.held()[3][19:22], (8, 4, 7))

    def test_an_item_of_64(self):
        """L 0 counts as 64: the cell 63 behind there is read."""
        data = tuple(range(64))
        told = text_image((("set", 1, 63), 3), (("item", 0, 1, 64, 3), 6), (("show", 0), 2), STOP, data=data)
        self.assertEqual(told[10][6], 0)
        self.check(told, shown(63))
        self.check(text_image((("set", 1, 63), 3), (("item", 0, 1, 63, 3), 6), (("show", 0), 2), STOP, data=data), shown(0))

    def test_places(self):
        # take at 0 (4): the place of position 6; then leap (2) calls it.
        told = text_image((("take", 1, 3), 4), (("leap", 1), 2), STOP, (("show", 0), 2), RETURN)
        for base in (1, 63, 64, 65, 4000):
            machine = Machine(told, (), (), (base,))
            machine.step()
            self.assertEqual(machine.state()[2], (0, base + 7))
            self.check(told, shown(0), base=base)
        # alike of places that are nothing, and of one and the same.
        self.check(text_image((("alike", 0, 0, 1), 4), (("show", 0), 2), (("take", 0, 0), 4), (("alike", 0, 0, 1), 4), (("show", 0), 2),
                              STOP), shown(1, 0))
        # pick: of the place that stands 2 * (s modulo L) behind there.
        told = text_image((("set", 2, 5), 3), (("pick", 0, 2, 3, 1), 6), STOP, data=(1, 2, 3, 4, 5, 6))
        machine = Machine(told, (), ())
        machine.go(2)
        self.assertEqual(machine.state()[2], (5 * 64 + 6, 0))

    def test_ways(self):
        self.check(text_image((("jump", 2), 2), (("show", 0), 2), (("set", 0, 1), 3), (("if", 0, 1), 3), STOP, (("show", 0), 2), STOP),
                   shown(1))
        self.check(text_image((("jump", 0), 3), (("if", 0, -2000), 4), (("call", 1), 3), STOP, (("show", 0), 2), RETURN), shown(0))
        self.check(text_image((("call", 2), 2), (("show", 0), 2), STOP), (), ("stopped",), base=5)
        self.check(text_image((("call", 3), 2), (("show", 0), 2), STOP, (("set", 0, 4), 3), RETURN), shown(4))

    def by_slot(self, *senses, exports, data=(), late=False, sort="code", many=0, text=()):
        """A program whose instructions lead to the slot of x, and libraries, of which one exports x."""
        told = text_image(*senses, needs=("li",), wants=(("x", sort, many, False),), slots=(("x", late),))
        library = text_image(*(text or (STOP,)), name="li", exports=exports, data=data)
        return told, (library,)

    def test_by_slot(self):
        data = dict(exports=(("x", "data", 1, 3),), data=(6, 7, 8), sort="data", many=3)
        told, libraries = self.by_slot((("by load", 0, 2, 8), 5), (("show", 0), 2), (("set", 1, 4), 3), STOP, STOP, STOP, **data)
        self.check(told, shown(8), libraries=libraries)
        told, libraries = self.by_slot((("set", 1, 4), 3), (("by item", 0, 1, 3, 3), 6), (("show", 0), 2), STOP, **data)
        self.check(told, shown(7), libraries=libraries)
        told, libraries = self.by_slot((("set", 1, 4), 3), (("by store", 1, 2, 13), 5), (("by fill", 1, 1, 3, 7), 6),
                                       (("by load", 0, 2, 2), 5), (("show", 0), 2), **data)
        machine = Machine(told, libraries, (), (1, 100))
        machine.go(5)
        self.assertEqual(machine.held()[3][101:104], (6, 4, 4))
        self.assertEqual(machine.state()[3], shown(4))
        table = dict(exports=(("x", "table", 1, 2),), data=(0, 0, 1, 2), sort="table", many=2)
        told, libraries = self.by_slot((("set", 1, 3), 3), (("by pick", 1, 1, 2, 4), 6), (("by take", 0, 0), 4), **table)
        machine = Machine(told, libraries, (), (1, 100))
        machine.go(3)
        self.assertEqual(machine.state()[2], (101, 66))

    def test_calls_by_slot(self):
        text = ((("set", 0, 3), 3), (("show", 0), 2), RETURN)
        for late in (False, True):
            told, libraries = self.by_slot((("by call", 6), 3), (("show", 1), 2), (("by jump", 1), 3), STOP,
                                           exports=(("x", "code", 0, 0),), late=late, text=text)
            self.check(told, shown(3, 0, 3), libraries=libraries, late=late)

    def test_nothing_by_slot(self):
        """Of the place 0 all but by take fail with 63."""
        for sense, many in ((("by load", 0, 1, 0), 5), (("by store", 0, 1, 0), 5), (("by item", 0, 1, 2, 0), 6),
                            (("by fill", 0, 1, 2, 0), 6), (("by pick", 0, 1, 2, 0), 6), (("by call", 0), 3), (("by jump", 0), 3)):
            told = text_image((sense, many), wants=(("x", "code", 0, True),), slots=(("x", False),))
            self.check(told, (), ("fails", 63, (("", LOT, 0),)))
            told = text_image((sense[:-1] + (5,), many), (("show", 0), 2), STOP, (("show", 0), 2), wants=(("x", "code", 0, True),),
                              slots=(("x", True),), tries=((many, many + 3),))
            self.check(told, shown(63), ("lost", 1 + many + 5), late=True)
        told = text_image((("by take", 0, 3), 4), (("leap", 0), 2), STOP, wants=(("x", "code", 0, True),), slots=(("x", False),))
        self.check(told, (), ("fails", 63, (("", LOT, 1),)))

    def test_tries(self):
        # call f; f calls g; g fails: both calls end where a try is told.
        senses = ((("call", 3), 2), (("show", 0), 2), STOP, (("call", 3), 2), (("show", 1), 2), RETURN, (("fail", 9), 2))
        trace = (("", LOT, 6), ("", LOT, 3), ("", LOT, 0))
        for tries, events, end in (
                ((), (), ("fails", 9, trace)), (((2, 2),), shown(9), ("stopped",)),
                (((7, 7),), shown(0, 9), ("stopped",)), (((2, 4), (7, 7)), shown(0, 9), ("stopped",)),
                (((2, 4), (7, 2)), shown(9), ("stopped",)), (((1, 2), (3, 2), (8, 2)), (), ("fails", 9, trace)),
                # The address behind the instruction that failed counts first.
                (((12, 2),), shown(9), ("stopped",))):
            told = text_image(*senses, tries=tries)
            if not any(n == 12 for n, _ in tries):
                self.check(told, events, end)
                self.check(told, events, end, base=700)
        # What was looked at is gone from the stack; what was not stays.
        senses = ((("call", 3), 2), (("show", 0), 2), STOP, (("fail", 9), 2), (("show", 2), 2), STOP)
        for tries, held, events in ((((2, 2), (7, 7)), (8, (3,)), shown(0)), (((2, 2),), (3, ()), shown(9))):
            told = text_image(*senses, tries=tries)
            self.check(told, events)
            machine = Machine(told, (), ())
            machine.go(2)
            self.assertEqual(machine.held()[:2], held)

    def test_a_fail_that_nobody_takes_leaves_the_stack(self):
        machine = Machine(text_image((("call", 1), 2), STOP, (("fail", 3), 2)), (), (), (10,))
        self.assertEqual(machine.go(5), 2)
        self.assertEqual(machine.held()[:2], (None, (12,)))
        self.assertEqual(machine.state()[4], ("fails", 3, (("", LOT, 2), ("", LOT, 0))))

    def test_lost(self):
        cases = (
            # What is no instruction, or does not lie in an image whole.
            (text_image((("set", 0, 1), 3), (("jump", 40), 3)), 2, 4 + 3 + 40), (text_image((("jump", -31), 2)), 1, 3 - 31),
            (text_image((("jump", -2048), 3)), 1, 4 - 2048), (text_image((("call", -2), 2), entry=0), None, None),
            # Reading and writing what belongs to no image.
            (text_image((("load", 0, 0), 4)), 0, 1), (text_image((("load", 0, -6), 4)), 0, 1), (text_image((("store", 0, 0), 4)), 0, 1),
            (text_image((("store", 0, -6), 4)), 0, 1), (text_image((("load", 0, 2047), 4)), 0, 1),
            (text_image((("set", 1, 1), 3), (("item", 0, 1, 2, -1), 6), STOP), None, None),
            (text_image((("set", 1, 1), 3), (("item", 0, 1, 2, 0), 6)), 1, 4),
            (text_image((("set", 1, 1), 3), (("fill", 0, 1, 2, 0), 6)), 1, 4), (text_image((("pick", 0, 1, 2, -1), 6)), 0, 1),
            (text_image((("pick", 0, 1, 2, 0), 6)), 0, 1), (text_image((("pick", 0, 1, 2, -2), 6)), None, None),
            # The slot's cells.
            (text_image((("by load", 0, 0, -1), 5)), 0, 1), (text_image((("by take", 0, -1), 4)), 0, 1),
            (text_image((("by call", -1), 3)), 0, 1), (text_image((("by jump", 0), 3)), 0, 1), (text_image((("by pick", 0, 0, 1, -1), 6)), 0, 1),
            # What stands there: 2 * 64 + 5 and the like belongs to none.
            (text_image((("by load", 0, 0, 0), 5), data=(2, 5)), 0, 1), (text_image((("by store", 0, 0, 0), 5), data=(2, 5)), 0, 1),
            (text_image((("by item", 0, 0, 1, 0), 6), data=(2, 5)), 0, 1), (text_image((("by pick", 0, 0, 1, 0), 6), data=(2, 5)), 0, 1),
            # To go on where nothing is is a row; being there is not.
            (text_image((("by call", 0), 3), data=(2, 5)), 1, 133), (text_image((("by jump", 0), 3), data=(2, 5)), 1, 133),
            (text_image((("by take", 0, 2), 4), (("leap", 0), 2), data=(2, 5)), 2, 133))
        for told, rows, address in cases:
            machine, iron = Machine(told, (), ()), plainrun.Iron(told, (), (), (1,))
            done = machine.go(50)
            self.assertEqual(done, len([None for _ in range(50) if iron.step()]))
            self.assertEqual((machine.state(), machine.held()), (iron.state(), iron.held()))
            if rows is not None:
                self.assertEqual((done, machine.state()[4]), (rows, ("lost", address)))
                self.assertEqual(machine.state()[0], ())
                before = machine.held()
                self.assertIs(machine.step(), False)
                self.assertEqual((machine.held(), machine.held()[0]), (before, None))

    def test_lost_at_cells_that_are_no_instruction(self):
        told = text_image((("jump", 1), 2), STOP, data=(0, 24, 5, 4, 23, 63))
        for at, address in ((3, 4), (4, 5), (5, 6), (7, 8)):
            other = told[:10] + ((16, at - 2) + told[10][2:],) + told[11:]
            self.assertEqual(run_images(other, (), (), 9), ((), ("lost", address)))

    def test_lost_at_the_edges_of_images(self):
        """What is not of an image is not run, read or written, be its cells 0 or another one's beside it."""
        whole = text_image((("jump", 0), 2), data=(6,))
        for told, base, rows, address in (
                # Of the show but its code belongs to the image; behind it stand zeros.
                (whole, 1, 1, 3), (whole, 4093, 1, 4095),
                # Of the two cells of a place the first one, or the last one, belongs to none.
                (text_image((("by take", 0, -5), 4), STOP), 1, 0, 1), (text_image((("by take", 0, 0), 4), data=(0,)), 1, 0, 1),
                (text_image((("by take", 0, 0), 4), data=(0,)), 4091, 0, 4091), (text_image((("pick", 0, 0, 1, -7), 6), STOP), 9, 0, 9),
                # Address 0 by distance is no nothing: there is no cell.
                (text_image((("jump", -3), 2)), 1, 1, 0), (text_image((("call", -4), 3)), 1, 1, 0),
                (text_image((("pick", 0, 0, 1, -7), 6), STOP), 1, 0, 1), (text_image((("load", 0, -5), 4)), 1, 0, 1),
                # Behind and ahead of memory.
                (text_image((("load", 0, 0), 4)), 4092, 0, 4092), (text_image((("store", 0, 1), 4)), 4092, 0, 4092),
                (text_image((("load", 0, -6), 4)), 1, 0, 1), (text_image((("jump", 0), 2)), 4094, 1, 4096),
                (text_image((("jump", -4), 2)), 1, 1, -1), (text_image((("show", 0), 2)), 4094, 1, 4096)):
            machine, iron = Machine(told, (), (), (base,)), plainrun.Iron(told, (), (), (base,))
            self.assertEqual(machine.go(9), rows)
            self.assertEqual(len([None for _ in range(9) if iron.step()]), rows)
            self.assertEqual(machine.state(), iron.state())
            self.assertEqual(machine.state()[4], ("lost", address))
        # With another image on top of memory there still is none ahead of it.
        told = text_image((("jump", -4), 2), needs=("li",))
        self.assertEqual(run_images(told, (text_image(STOP, name="li"),), (), 9, (1, 4095)), ((), ("lost", -1)))
        told = text_image((("load", 0, -6), 4), STOP, needs=("li",))
        self.assertEqual(run_images(told, (text_image(STOP, name="li"),), (), 9, (1, 4095)), ((), ("lost", 1)))

    def test_neighbours_belong_to_memory(self):
        """A cell of another image may be read and written; between images nothing may."""
        program = text_image((("load", 0, 2), 4), (("show", 0), 2), needs=("li",))
        library = text_image((("set", 0, 9), 3), name="li")
        machine = Machine(program, (library,), (), (1, 7))
        self.assertEqual(machine.go(9), 3)
        # On over its own end it comes into the library, whose set is done; behind it nothing is.
        self.assertEqual(machine.state()[1:], ((9, 0, 0, 0), (0, 0), shown(1), ("lost", 10)))
        for base in (8, 20):
            self.assertEqual(run_images(program, (library,), (), 9, (1, base)), ((), ("lost", 1)))
        self.assertEqual(run_images(program, (library,), (), 9, (5, 2)), ((), ("lost", 5)))

    def test_it_may_write_into_itself(self):
        """The second instruction becomes a stop by what the first writes."""
        told = text_image((("set", 0, 22), 3), (("store", 0, 0), 4), (("show", 1), 2))
        self.check(told, ())

    def test_tries_count_within_their_image(self):
        """At the address just behind an image, where another one stands, none of its tries counts."""
        program = text_image((("call", 0), 2), tries=((2, 0),), needs=("li",))
        library = text_image((("fail", 4), 2), STOP, name="li")
        told = run_images(program, (library,), (), 9, (1, 3))
        self.assertEqual(told, ((), ("fails", 4, (("li", LOT, 0), ("", LOT, 0)))))
        self.assertEqual(told, plainrun.run_images(program, (library,), (), 9, (1, 3)))
        program = text_image((("call", -2), 2), tries=((2, 0),))
        self.assertEqual(Machine(program, (), (), (4094,)).go(9), 9)
        program = text_image((("fail", 4), 2), tries=((2, 0),))
        self.assertEqual(run_images(program, (), (), 9, (4094,)), ((), ("fails", 4, (("", LOT, 0),))))


class TraceTest(unittest.TestCase):
    def test_frames_without_body_or_image(self):
        # The program goes on in its data, the library's stop is called from there.
        told = text_image((("jump", 0), 2), data=(14, 5, 23, 7))
        self.assertEqual(run_images(told, (), (), 9), ((), ("lost", 10)))
        told = text_image((("jump", 0), 2), data=(14, 0, 23, 7))
        self.assertEqual(run_images(told, (), (), 9), ((), ("fails", 7, (("", (), 0), ("", (), 0)))))
        told = text_image((("call", -2), 2), name="", data=(23, 7))
        machine = Machine(told, (), ())
        self.assertEqual(machine.go(3), 3)
        self.assertEqual(machine.state()[0], (("", LOT, 0),) * 4)
        self.assertEqual(machine.held()[1], (3, 3, 3))

    def test_a_call_at_the_end_of_an_image(self):
        """The address behind it belongs to another image, but the call stands in its own."""
        program = text_image((("call", 0), 2), needs=("li",))
        library = text_image((("fail", 4), 2), name="li")
        self.assertEqual(run_images(program, (library,), (), 9, (1, 3)), ((), ("fails", 4, (("li", LOT, 0), ("", LOT, 0)))))

    def test_rows_within_bodies(self):
        told = text_image((("set", 0, 1), 3), (("call", 1), 2), STOP, (("show", 0), 2), (("fail", 8), 2))
        self.assertEqual(run_images(told, (), (), 9, (77,)), (shown(1), ("fails", 8, (("", LOT, 4), ("", LOT, 1)))))


class MachineTest(unittest.TestCase):
    def test_state_and_held_row_by_row(self):
        told = text_image((("call", 2), 2), (("show", 2), 2), (("take", 1, -8), 4), (("set", 2, 5), 3), RETURN, starts=(11,))
        machine = Machine(told, (), (), (64,))
        self.assertEqual(machine.state(), ((("", LOT, 4),), (0,) * 4, (0, 0), (), None))
        self.assertEqual(machine.held(), (75, (), (), memory(told, (), (64,))))
        seen = [machine.held()[:2]]
        while machine.step():
            seen.append(machine.held()[:2])
        # The start's return goes on to the entry, which calls the take.
        self.assertEqual(seen, [
            (75, ()), (64, ()), (68, (66,)), (72, (66,)), (75, (66,)), (66, ()), (68, ()), (72, ()), (75, ()), (None, ())])
        self.assertEqual(machine.state(), ((), (0, 0, 5, 0), (0, 64), shown(5), ("stopped",)))

    def test_example_by_hand(self):
        """[82]"""
        unit = made("u", code("main", ("call", "get"), ("show", 0), ("return",)),
                    code("get", ("load", 0, "pair", 1), ("return",), reach="own"), piece("pair", "const", (5, 7), "own"))
        told = linked((item(unit),), ("program", "main"))
        self.assertEqual(told[10], (14, 3, 6, 0, 21, 7, 0, 0, 2, 21, 5, 7))
        self.assertEqual(bases_for(told, ()), (1,))
        self.assertEqual(memory(told, ())[1:13], told[10])
        machine = Machine(told, (), [])
        self.assertIs(machine.step(), True)
        self.assertEqual(machine.held()[:2], (6, (3,)))
        self.assertEqual(run_images(told, (), [], 5), ((("shown", 7),), ("stopped",)))
        self.assertEqual(run_images(told, (), [], 4), ((("shown", 7),), ("cut",)))
        self.assertEqual(body_at(told, 6), ((("u", "get"),), 0))

    def test_go(self):
        told = text_image((("show", 0), 2), (("jump", -4), 2))
        machine = Machine(told, (), ())
        for rows in (0, 1, 7, 2000):
            self.assertEqual(machine.go(rows), rows)
        self.assertEqual(machine.go(rows=3), 3)
        self.assertEqual(len(machine.state()[3]), 1006)
        for thing in WEIRD + (-1, 2001, True, 1.0, "1"):
            if not (type(thing) is int and 0 <= thing <= 2000):
                before = machine.state()
                self.assertEqual(raised(machine.go, thing), ("BadMost", {}))
                self.assertEqual(machine.state(), before)
        machine = Machine(text_image((("show", 0), 2), STOP), (), ())
        self.assertEqual([machine.go(1), machine.go(9), machine.go(9)], [1, 1, 0])
        machine = Machine(text_image((("ask", 0), 2), STOP), (), ())
        self.assertEqual([machine.go(0), machine.state()[4], machine.go(1), machine.state()[4]], [0, None, 0, ("waits",)])

    def test_copies_go_on_by_themselves(self):
        for seed in range(40):
            rng = random.Random(seed)
            world, inputs = worlds.one_world(rng), worlds.one_inputs(rng)
            told, libraries = worlds.images_for(world)
            machine = Machine(told, libraries, inputs, late=True)
            machine.go(rng.randrange(9))
            other, third = machine.copy(), machine.copy()
            self.assertIsInstance(other, Machine)
            held = machine.held(), machine.state()
            other.go(30)
            self.assertEqual((machine.held(), machine.state()), held)
            self.assertEqual((third.held(), third.state()), held)
            machine.go(30)
            self.assertEqual((machine.held(), machine.state()), (other.held(), other.state()))
            for address in range(0, 200, 7):
                self.assertEqual(machine.spot(address), other.spot(address))
            third.go(30)
            self.assertEqual((machine.held(), machine.state()), (third.held(), third.state()))

    def test_spots(self):
        machine = Machine(image(needs=("li",), more=4), (image("li", rooms=3),), (), (10, 4092))
        for address, spot in ((0, None), (9, None), (10, (0, 0)), (14, (0, 4)), (15, None), (4091, None), (4092, (1, 0)),
                              (4095, (1, 3))):
            self.assertEqual(machine.spot(address), spot)
            self.assertEqual(machine.spot(address=address), spot)
        for thing in WEIRD + (-1, 4096, True, 1.0):
            if not (type(thing) is int and 0 <= thing < 4096):
                self.assertEqual(raised(machine.spot, thing), ("BadAddress", {}))

    def test_what_is_told_is_the_askers(self):
        machine = Machine(text_image((("store", 0, -1), 4), STOP, data=(5,)), (), ())
        held, state = machine.held(), machine.state()
        self.assertEqual([type(x) for x in held[1:]], [tuple] * 3)
        machine.go(3)
        self.assertEqual(held[3][6], 5)
        self.assertEqual(state[4], None)

    def test_inputs_stay(self):
        inputs = [4, 5]
        told = text_image((("ask", 0), 2), (("ask", 0), 2), STOP)
        self.assertEqual(run_images(told, (), inputs, 9), ((("asked", 4), ("asked", 5)), ("stopped",)))
        self.assertEqual(inputs, [4, 5])
        self.assertEqual(run_images(told, (), (4, 5), 9), run_images(told, (), inputs, 9))


class ErrorsTest(unittest.TestCase):
    def test_in_their_order(self):
        li = image("li")
        good = image()
        program = image(needs=("li",))
        wanting = image(needs=("li",), wants=(("f", "code", 0, False),))
        # From the right each is wrong; one after another is set right.
        for args, told in (
                ((li, [], None, None, (), None), "BadImage"), ((program, [], None, None, (), None), "BadImages"),
                ((wanting, (), None, None, (), None), "NoLibrary"), ((wanting, (li,), None, None, (), None), "NotLet"),
                ((program, (li,), None, None, (), None), "BadBases"), ((program, (li,), None, None, (9, 9), None), "BadBases"),
                ((program, (li,), None, None, (9, 3), None), "BadInputs"), ((program, (li,), None, None, None, None), "BadInputs"),
                ((program, (li,), [], None, (9, 3), None), "BadMost"), ((program, (li,), [], 2001, (9, 3), True), "BadMost"),
                ((program, (li,), [], 2000, (9, 3), None), "BadLate"), ((program, (li,), [], 0, None, 1), "BadLate"),
                ((program, (li,), [], 0, (9, 3), True), "told")):
            self.assertEqual(raised(run_images, *args)[0], told, told)
            if told != "BadMost":
                self.assertEqual(raised(Machine, *args[:3], *args[4:])[0], told, told)
        self.assertEqual(raised(run_images, good, (), (), 3, late=True, bases=(4,))[0], "told")

    def test_too_wide(self):
        program = image(needs=("li", "lo"), more=1999)
        libraries = (image("li", more=1999), image("lo", more=95))
        self.assertEqual(raised(Machine, program, libraries, None), ("TooWide", {"cells": 4096}))
        self.assertEqual(raised(run_images, program, libraries, None, None), ("TooWide", {"cells": 4096}))
        self.assertEqual(raised(run_images, program, libraries, None, None, (1, 2001, 4001)), ("BadBases", {}))

    def test_any_values(self):
        told = image()
        for thing in WEIRD:
            cells = type(thing) in (tuple, list) and all(type(x) is int and 0 <= x <= 63 for x in thing)
            self.assertEqual(raised(run_images, told, (), thing, 5)[0], "told" if cells else "BadInputs")
            most = type(thing) is int and 0 <= thing <= 2000
            self.assertEqual(raised(run_images, told, (), (), thing)[0], "told" if most else "BadMost")
            late = thing is True or thing is False
            self.assertEqual(raised(run_images, told, (), (), 5, None, thing)[0], "told" if late else "BadLate")
            self.assertEqual(raised(Machine, told, (), (), None, thing)[0], "told" if late else "BadLate")

    def test_cut(self):
        ask = text_image((("show", 0), 2), (("ask", 0), 2), STOP)
        for told, most, end in (
                (ask, 0, "cut"), (ask, 1, "cut"), (ask, 2, "waits"), (text_image((("show", 0), 2)), 1, "cut"),
                (text_image((("show", 0), 2)), 2, "lost"), (text_image((("show", 0), 2), STOP), 1, "cut"),
                (text_image((("show", 0), 2), STOP), 2, "stopped"), (text_image((("show", 0), 2), (("fail", 1), 2)), 1, "cut"),
                (text_image((("show", 0), 2), (("fail", 1), 2)), 2, "fails"), (text_image((("jump", -2), 2)), 2000, "cut")):
            self.assertEqual(run_images(told, (), (), most)[1][0], end)


class DrawnTest(unittest.TestCase):
    def test_as_the_second_reading(self):
        """Images whose cells are as they happen to be, many of them lost, row by row."""
        ends = {}
        for seed in range(1500):
            rng = random.Random(seed)
            told, libraries = worlds.one_scope(rng, 0.03, 0)
            if plainrun.plainlink.outcome(plainrun.bindings, told, libraries)[0] != "told":
                continue
            bases = worlds.one_bases(rng, scope(told, libraries))
            inputs, late = worlds.one_inputs(rng), rng.random() < 0.5
            machine, iron = Machine(told, libraries, inputs, bases, late), plainrun.Iron(told, libraries, inputs, bases, late)
            going = True
            while going and len(iron.events) < 20 and len(iron.stack) < 20:
                self.assertEqual(machine.state(), iron.state(), seed)
                self.assertEqual(machine.held(), iron.held(), seed)
                going = machine.step()
                self.assertIs(going, iron.step())
                if rng.random() < 0.02:
                    break
            self.assertEqual(machine.state(), iron.state())
            end = (machine.state()[4] or ("cut",))[0]
            ends[end] = ends.get(end, 0) + 1
        for end in ("lost", "stopped", "fails", "waits", "cut"):
            self.assertGreater(ends[end], 10, ends)

    def test_bases(self):
        """HEART: at other bases the registers, events and spots are the same behind as many rows."""
        for seed in range(100):
            rng = random.Random(seed)
            told, libraries = worlds.images_for(worlds.one_world(rng))
            images, inputs = scope(told, libraries), worlds.one_inputs(rng)
            late = rng.random() < 0.5
            bases = bases_for(told, libraries), worlds.one_bases(rng, images)
            one, other = [Machine(told, libraries, inputs, b, late) for b in bases]
            for at in range(60):
                if at % 6 == 0:
                    self.check_spots(images, one, other)
                going = one.step()
                self.assertIs(other.step(), going)
                if not going:
                    break
            self.check_spots(images, one, other)

    def check_spots(self, images, one, other):
        self.assertEqual([one.state()[k] for k in (0, 1, 3, 4)], [other.state()[k] for k in (0, 1, 3, 4)])

        def spots(machine):
            at, stack, unbound, _ = machine.held()
            places = [p and machine.spot(p) for p in machine.state()[2]]
            return [at and machine.spot(at)], places, [machine.spot(a) for a in stack], sorted(map(machine.spot, unbound))

        self.assertEqual(spots(one), spots(other))
        for k, image in enumerate(images):
            led = {p + j for p in [s[0] for s in image[7]] + [f[0] for f in image[8]] for j in (0, 1)}
            pair = []
            for machine in (one, other):
                cells = machine.held()[3]
                base = machine.bases[k]
                if image[11][5] > 0:
                    self.assertEqual(machine.spot(base), (k, 0))
                held = [cells[base + p] for p in range(image[11][5]) if p not in led]
                aims = [cells[base + p] * 64 + cells[base + p + 1] for p in sorted(led)[::2]]
                pair.append((held, [a and machine.spot(a) for a in aims]))
            self.assertEqual(pair[0], pair[1])

    def test_early_and_late(self):
        """HEART: they differ in the cells of the slots not yet bound alone."""
        bound = 0
        for seed in range(150):
            rng = random.Random(seed)
            told, libraries = worlds.images_for(worlds.one_world(rng))
            inputs, bases = worlds.one_inputs(rng), worlds.one_bases(rng, scope(told, libraries))
            early, late = Machine(told, libraries, inputs, bases), Machine(told, libraries, inputs, bases, True)
            self.assertEqual(early.held()[2], ())
            first = late.held()[2]
            self.assertEqual(len(first), sum(s[2] for i in scope(told, libraries) for s in i[7]))
            self.assertEqual(early.held()[3], memory(told, libraries, bases))
            while True:
                self.assertEqual(early.state(), late.state())
                at, stack, unbound, cells = late.held()
                self.assertEqual((at, stack), early.held()[:2])
                wait = {a + j for a in unbound for j in (0, 1)}
                for a, (x, y) in enumerate(zip(early.held()[3], cells)):
                    self.assertEqual(y, 0 if a in wait else x)
                self.assertTrue(set(unbound) <= set(first))
                if early.step() is not late.step() or early.state()[4] or rng.random() < 0.03:
                    break
            bound += len(first) > len(late.held()[2])
        self.assertGreater(bound, 10)

    def test_refused_early_as_late(self):
        seen = 0
        for seed in range(300):
            told, libraries = worlds.one_scope(random.Random(seed))
            early = raised(run_images, told, libraries, (), 0)
            self.assertEqual(early, raised(run_images, told, libraries, (), 0, late=True))
            seen += early[0] == "NotLet"
        self.assertGreater(seen, 100)

    def test_an_unbound_slot_by_hand(self):
        """The first call or jump by it binds it; nothing else does."""
        li = lib("li", item(made("v", code("f", ("show", 0), ("return",)))))
        main = made("u", code("main", ("call", "f"), ("set", 0, 1), ("jump", "f")))
        world = (li, program(item(main), card_item(li)))
        told, libraries = worlds.images_for(world)
        slot = 1 + told[7][0][0]
        self.assertEqual(told[7][0][1:], ("f", True))
        machine = Machine(told, libraries, (), late=True)
        self.assertEqual((machine.held()[2], machine.held()[3][slot:slot + 2]), ((slot,), (0, 0)))
        machine.step()
        self.assertEqual((machine.held()[2], machine.held()[3]), ((), memory(told, libraries)))
        taking = made("u", code("main", ("take", 0, "f"), ("call", "f"), ("return",)))
        told, libraries = worlds.images_for((li, program(item(taking), card_item(li))))
        self.assertEqual(told[7][0][1:], ("f", False))
        self.assertEqual(Machine(told, libraries, (), late=True).held()[2], ())
        # A spare that nobody has is bound to nothing.
        spare = made("u", code("main", ("try", "no", 1), ("try", "no", 2), ("return",)), spares=("no",))
        told, _ = worlds.images_for((program(item(spare)),))
        machine = Machine(told, (), (), late=True)
        slot = 1 + told[7][0][0]
        self.assertEqual(machine.held()[2], (slot,))
        machine.step()
        self.assertEqual((machine.held()[2], machine.held()[3][slot:slot + 2]), ((), (0, 0)))
        self.assertEqual(machine.state()[1], (63, 0, 0, 0))

    def test_calls(self):
        """Calls through libraries, with what each shows."""
        li = lib("li", item(made("v", calls("f", "g"), code("g", ("show", 1), ("return",), reach="own"))))
        world = (li, program(item(made("u", calls("main", "f", "f"))), card_item(li)))
        told, libraries = worlds.images_for(world)
        self.assertEqual(run_images(told, libraries, (), 99), (shown(0, 0), ("stopped",)))


if __name__ == "__main__":
    unittest.main()
