import random
import unittest

from onebase.meaning import instances, is_world, namings, where
from onebase.naming import naming
from onebase.playing import Play, run_world
from tests import plain, plainlink, plainrun, worlds
from tests.plain import apart, goal_, line_, need, tuple_, word
from tests.support import WEIRD, archive, calls, check_judge, code, item, library, made, near, piece, raised, weird_near
from tests.worlds import card_for


@plain.judge
def valid_world(w):
    names = []
    for k, plan in enumerate(tuple_(w, 1, 5)):
        tuple_(plan, 3, 3)
        word(plan[0], "plan")
        goal_(plan[1])
        need((plan[1][0] == "program") is (k == len(w) - 1))
        line_(plan[2])
        need(all(c[1] in names for c in plainlink.cards_of(plan[2])))
        names.append(plan[1][1])
    apart(names[:-1])


def plan(goal, *items):
    return ("plan", goal, items)


def lib(name, *items):
    return plan(("library", name), *items)


def program(*items, entry="main"):
    return plan(("program", entry), *items)


def card_item(told):
    """The item of a library in lines, by its plan."""
    return ("library", card_for(told[1], told[2]))


MAIN = item(made("u", calls("main", "f")))
F = item(made("v", code("f", ("show", 0), ("return",))))
LI = lib("li", F)
LO = lib("lo", item(made("v", calls("g", "f"))), card_item(LI))
WORLD = (LI, LO, program(MAIN, card_item(LO), card_item(LI)))


class WorldTest(unittest.TestCase):
    def test_near_right_ones(self):
        small = item(made("v", code("f"), code("g", ("stop",), reach="own")))
        li = lib("li", small)
        lo = lib("lo", card_item(li))
        seen = check_judge(self, is_world, valid_world, [
            (program(item(made("u", code("main")))),), (program(),), (li, program(card_item(li))),
            (lib("li"), lib("lo"), program(library("lo"), library("li"))), (li, lo, program(card_item(lo))),
            (program(archive("a", made("u", code("main"))), ("round", (archive("b"), archive("c")))),)])
        self.assertGreater(seen[True], 100)
        self.assertGreater(seen[False], 1000)

    def test_plans(self):
        last = program(MAIN)
        four = tuple(lib(x) for x in ("la", "lb", "lc", "ld"))
        for thing, right in (
                (four + (last,), True), (four + (lib("le"), last), False), ((), False), ((lib("li"),), False),
                ((last, last), False), ((last, lib("li")), False), ((lib("li"), lib("li"), last), False),
                ((program(library("li")),), False), ((lib("li"), program(library("li"))), True),
                ((lib("li"), program(library("li"), library("li"))), False),
                ((lib("li"), program(library("lo"))), False), ((lib("li", library("li")), last), False),
                ((lib("li", library("lo")), lib("lo"), last), False), ((lib("li"), lib("lo", library("li")), last), True),
                ((program(archive("a")),), True), ((program(("round", ())),), True), ([last], False),
                # Objects may stand in archives and rounds, in all plans; units, archives and cards are told apart by their names.
                ((program(MAIN, archive("a", F[1])),), True), ((lib("li", ("round", (archive("a", F[1]), archive("b")))), last), True),
                ((program(archive("a"), archive("a")),), False), ((program(MAIN, ("round", (archive("a"), archive("a")))),), False),
                ((program(MAIN, archive("a", MAIN[1])),), False), ((program(archive("a", F[1]), ("round", (archive("b", F[1]),))),), False),
                ((lib("li", archive("a")), program(archive("a"))), True), ((program(archive("call")),), False),
                ((program(archive("a"), library("li")),), False), ((program(("round", (F,))),), False),
                # Whatever the card tells: whether it is the library's is asked by namings.
                ((lib("li"), program(library("li", ("zz",), (("f", "code", 0),)))), True),
                # A sound unit is asked; and each unit's name once.
                ((program(item(made("u", calls("main", "f"), spares=("f",)))),), True),
                ((program(item(made("u", code("main", ("load", 0, "f", 0), ("stop",)), spares=("f",)))),), False),
                ((program(MAIN, MAIN),), False), ((lib("u", MAIN), program(MAIN)), True),
                ((plan(("program", "call"), MAIN),), False), ((plan(("object", "main"), MAIN),), False)):
            self.assertIs(is_world(thing), right)
            self.assertIs(valid_world(thing), right)
        for thing in WEIRD:
            self.assertIs(is_world(thing), False)
            self.assertIs(is_world((thing,)), False)

    def test_all_raise_for_what_is_none(self):
        for thing in WEIRD + ((program(archive("a"), archive("a")),), (lib("li"),), [program(MAIN, F)], (program(MAIN, archive("a", MAIN[1])),)):
            for f, more in ((namings, ()), (instances, ()), (where, (None, None)), (run_world, (None, None)),
                            (Play, (None,))):
                self.assertEqual(raised(f, thing, *more), ("BadWorld", {}))


class NamingsTest(unittest.TestCase):
    def test_each_plan(self):
        self.assertEqual(namings(WORLD), tuple(naming(line, goal) for _, goal, line in WORLD))
        self.assertEqual(namings(world=WORLD), namings(WORLD))

    def test_errors_plan_by_plan(self):
        missing = lib("li", MAIN)
        stale = library("li", (), (("x", "code", 0),))
        other = ("OtherCard", {"name": "li"})
        for world, told in (
                ((missing, program(stale, MAIN)), ("Missing", {"names": ("f",)})),
                ((LI, program(stale, MAIN, MAIN[:1] + (made("w", calls("h", "zz")),))), other),
                ((LI, lib("lo", stale), program(MAIN)), other),
                ((LI, lib("lo", stale), program(MAIN, library("lo", ("zz",)))), other),
                ((LI, LO, program(MAIN, stale, library("lo"))), other),
                ((LI, LO, program(MAIN, library("lo"), stale)), ("OtherCard", {"name": "lo"})),
                ((LI, LO, program(MAIN, card_item(LI), library("lo"))), ("OtherCard", {"name": "lo"})),
                # A library that a card needs must be in the line, too: OtherCard ahead of it, Missing behind.
                ((LI, LO, program(item(made("u", calls("main", "zz"))), card_item(LO))), ("NoLibrary", {"name": "li"})),
                ((LI, lib("lo", stale), program(MAIN)), other),
                ((LI, program(MAIN)), ("Missing", {"names": ("f",)})),
                ((LI, program(MAIN, card_item(LI), entry="f")), ("Missing", {"names": ("f",)})),
                ((lib("li", F, item(made("w", code("f")))), program(MAIN)), ("TwoStrong", {"name": "f"})),
                ((LI, program(item(made("u", code("main", ("load", 0, "f", 0), ("stop",)))), card_item(LI))),
                 ("WrongSort", {"unit": "u", "piece": "main", "name": "f"})),
                # Each library's plan is named, be it in the scope or not.
                ((missing, program(item(made("u", code("main"))))), ("Missing", {"names": ("f",)}))):
            for f, more in ((namings, ()), (instances, ()), (where, (None, None)), (run_world, (None, None)),
                            (Play, (None,))):
                self.assertEqual(raised(f, world, *more), told)

    def test_other_cards_differ_in_one_part(self):
        li = lib("li", item(made("v", code("f", ("call", "g"), ("return",)), piece("d", "data", (1, 2)), spares=("g",))))
        _, right = card_item(li)
        self.assertEqual(right, ("card", "li", (), (("d", "data", 2), ("f", "code", 0)), (("g", "code", 0, True),)))
        for other, _ in near(right):
            world = (li, program(MAIN, ("library", other)))
            if other != right and plain.is_card(other) and other[1] == "li":
                self.assertEqual(raised(namings, world), ("OtherCard", {"name": "li"}), other)
            elif not plain.is_card(other) or other[1] != "li":
                self.assertEqual(raised(namings, world), ("BadWorld", {}), other)
        self.assertEqual(raised(namings, (li, program(MAIN, ("library", right))))[0], "told")


class InstancesTest(unittest.TestCase):
    def test_scope_and_chosen_ones(self):
        weak = made("w", code("f", force="weak"), code("o", reach="own"), piece("d", "room", 1), piece("e", "room", 2))
        strong = made("x", code("f", ("stop",)), piece("d", "room", 2), piece("e", "room", 2))
        li = lib("li", item(weak), item(strong))
        out = lib("out", F)
        world = (li, out, program(MAIN, card_item(li)))
        self.assertEqual(instances(world), (
            (0, 0, "e"), (0, 0, "o"), (0, 1, "d"), (0, 1, "f"), (2, 0, "main")))
        self.assertEqual(instances(world=world), plainrun.instances(world))

    def test_drawn_worlds(self):
        for seed in range(80):
            world = worlds.one_world(random.Random(seed))
            self.assertTrue(is_world(world))
            self.assertTrue(valid_world(world))
            self.assertEqual(instances(world), plainrun.instances(world))
            self.assertEqual(namings(world), tuple(plainrun.named(world)))

    def test_not_let(self):
        """The first want of the first image of the scope that is not let."""
        def libs(body, other):
            li = lib("li", item(made("v", piece("d", "data", body))))
            lo = lib("lo", item(made("w", piece("d", "data", other))), item(made("x", code(
                "g", ("load", 0, "d", 0), ("return",)))))
            return li, lo

        user = item(made("u", code("main", ("load", 0, "d", 0), ("stop",))))
        for body, other, order, told in (
                ((1,), (1,), (0, 1), None), ((1,), (1, 2), (0, 1), ("lo", "d", "length")),
                ((1,), (1, 2), (1, 0), None), ((1, 2), (1,), (1, 0), None), ((1, 2), (1,), (0, 1), ("lo", "d", "length"))):
            li, lo = libs(body, other)
            cards = [card_item((li, lo)[k]) for k in order]
            world = (li, lo, program(user, *cards))
            expected = told and ("NotLet", dict(zip(("image", "name", "why"), told)))
            self.assertEqual(plainrun.refused(world), expected)
            for f, more in ((instances, ()), (where, (None, None)), (run_world, (None, None)), (Play, (None,))):
                answer = raised(f, world, *more)
                self.assertEqual(answer if answer[0] == "NotLet" else None, expected)

    def test_lacking_and_other_sort(self):
        # The library wants what the program has to show; the program shows what some card wants.
        wanting = ("library", ("card", "lo", (), (("h", "code", 0),), ()))
        li = lib("li", item(made("v", calls("f", "h"))), wanting)
        self.assertEqual(raised(instances, (lib("lo"), li, program(MAIN)))[0], "OtherCard")
        lo = lib("lo", item(made("w", code("h"))))
        li = lib("li", item(made("v", calls("f", "h"))), card_item(lo))
        self.assertEqual(raised(instances, (lo, li, program(MAIN, card_item(li)))), ("NoLibrary", {"name": "lo"}))
        data = item(made("x", piece("h", "data", (1,))))
        world = (lo, li, program(MAIN, data, card_item(li), card_item(lo)))
        self.assertEqual(raised(instances, world), ("NotLet", {"image": "li", "name": "h", "why": "sort"}))
        self.assertEqual(raised(run_world, world, None, None), ("NotLet", {"image": "li", "name": "h", "why": "sort"}))


class WhereTest(unittest.TestCase):
    def test_ways(self):
        """To the own piece, to a chosen one, by slot to the first that exports, to nothing."""
        v = made("v", code("f", ("call", "o"), ("call", "h"), ("call", "no"), ("return",)), code("o", reach="own"),
                 code("h", reach="hidden"), spares=("no",))
        li = lib("li", item(v))
        world = (li, program(item(made("u", code("main", ("call", "f"), ("jump", "no")), spares=("no",))), card_item(li)))
        for instance, x, there in (
                ((0, 0, "f"), "o", (0, 0, "o")), ((0, 0, "f"), "h", (0, 0, "h")), ((0, 0, "f"), "no", None),
                ((1, 0, "main"), "f", (0, 0, "f")), ((1, 0, "main"), "no", None)):
            self.assertEqual(where(world, instance, x), there)
            self.assertEqual(plainrun.where(world, instance, x), there)
        self.assertEqual(where(name="o", instance=(0, 0, "f"), world=world), (0, 0, "o"))

    def test_an_export_of_the_program_is_ahead(self):
        """What a library shows it asks by slot, so the program's own definition takes it over."""
        li = lib("li", item(made("v", calls("f", "g"), code("g", ("show", 0), ("return",)))))
        own = item(made("w", code("g", ("stop",))))
        world = (li, program(MAIN, own, card_item(li)))
        self.assertEqual(where(world, (0, 0, "f"), "g"), (1, 1, "g"))
        world = (li, program(MAIN, card_item(li)))
        self.assertEqual(where(world, (0, 0, "f"), "g"), (0, 0, "g"))
        hidden = item(made("w", code("g", ("stop",), reach="hidden")))
        world = (li, program(MAIN, hidden, card_item(li)))
        self.assertEqual(where(world, (0, 0, "f"), "g"), (0, 0, "g"))

    def test_libraries_in_the_order_of_the_program(self):
        one = lib("one", item(made("v", code("f"))))
        two = lib("two", item(made("v", code("f", ("stop",)))))
        for cards, at in (((one, two), 0), ((two, one), 1)):
            world = (one, two, program(MAIN, *[card_item(c) for c in cards]))
            self.assertEqual(where(world, (2, 0, "main"), "f"), (at, 0, "f"))

    def test_wrong_instances_and_names(self):
        out = lib("out", F)
        world = (LI, out, program(MAIN, card_item(LI)))
        for instance in (((0, 0, "g"), (0, 1, "f"), (1, 0, "f"), (3, 0, "main"), (2, 0, "f"), (-1, 0, "main"), (2, -1, "main"),
                          [2, 0, "main"], (2, False, "main"), (2, 0), (2, 0, "main", 0), (2.0, 0, "main"))
                         + WEIRD + tuple(weird_near((2, 0, "main")))):
            if type(instance) is tuple and [type(part) for part in instance] == [int, int, str]:
                if instance in instances(world):
                    continue
            for x in ("f", "zz", None):
                self.assertEqual(raised(where, world, instance, x), ("BadInstance", {}))
        for x in ("main", "zz", "", "call", 0, None, ("f",)) + WEIRD:
            self.assertEqual(raised(where, world, (2, 0, "main"), x), ("BadName", {}))
        # The piece must lead to it, not just its unit.
        two = made("u", calls("main", "f"), code("g", ("call", "main"), ("return",)), piece("t", "table", ("g", None)))
        world = (LI, program(item(two), card_item(LI)))
        for piece_name, x, right in (("main", "f", True), ("main", "main", False), ("g", "main", True), ("g", "f", False),
                                     ("t", "g", True), ("t", "f", False)):
            self.assertEqual(raised(where, world, (1, 0, piece_name), x)[0], "told" if right else "BadName")

    def test_drawn_worlds(self):
        kinds = {"slot": 0, "nothing": 0, "piece": 0}
        for seed in range(80):
            world = worlds.one_world(random.Random(seed))
            for k, m, x in instances(world):
                p = plainrun.piece_at(world, (k, m, x))
                for _, _, name, _ in plain.uses_of(p[2], p[5]):
                    there = where(world, (k, m, x), name)
                    self.assertEqual(there, plainrun.where(world, (k, m, x), name))
                    place = plainlink.leads_to(plainrun.named(world)[k], m, name)
                    kinds["nothing" if there is None else "slot" if place[0] == "slot" else "piece"] += 1
                    if there is not None:
                        self.assertIn(there, instances(world))
        self.assertGreater(min(kinds.values()), 30)


if __name__ == "__main__":
    unittest.main()
