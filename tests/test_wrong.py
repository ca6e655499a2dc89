"""What all functions of lines, of webs, of bundles and of images raise ahead of all else, whatever else is wrong."""

import unittest

from onebase import (
    bundles, carrying, cutting, deeds, folding, grouping, images, keeping, loose, lotpapers, lots, naming, orders, parting, plainlines, relinking,
    roadwords, rooms, shapes, sizes, swapping, taking, wantpapers, webs, widths,
)
from tests import plain, plainlink
from tests.support import WEIRD, archive, calls, code, item, library, made, near, piece, raised, weird_near
from tests.test_bundles import HAND
from tests.test_shapes import FIVE
from tests.webs import knot, web

MAIN = ("program", "main")

# By functions that take a line and a goal how many further parameters they have.
OF_LINES = {
    taking.members: 0, naming.naming: 0, webs.web_of: 0, bundles.bundle_of: 0, images.linked: 0, carrying.covers: 1, carrying.carries: 1, deeds.after: 1,
    plainlines.needed: 0, orders.order: 0, orders.is_order: 1, orders.order_with: 2, grouping.groups: 0, grouping.is_groups: 1, loose.loose: 2,
    lots.lots: 0, lots.bars: 0, lotpapers.lot_with: 1, lotpapers.is_lot_with: 2, relinking.Relinker: 0, relinking.touched: 1, swapping.swaps: 2,
    swapping.is_swaps: 3, wantpapers.want_paper: 0, wantpapers.is_want_paper: 1,
}

# Likewise of webs: how many knots are told behind it, and how many more.
OF_WEBS = {
    webs.leads: (1, 0), keeping.kept: (0, 0), keeping.road: (1, 0), keeping.is_road: (1, 1), keeping.holders: (1, 0), keeping.freed: (1, 0),
    cutting.cut: (1, 0), cutting.roads_apart: (1, 0), parting.front: (1, 0), parting.is_even: (0, 1), parting.classes: (0, 0), folding.told: (0, 0),
    folding.bodies: (0, 0), folding.main: (0, 0), folding.folded: (0, 0), shapes.shape: (1, 1), roadwords.behind: (1, 1), roadwords.tells: (2, 1),
    roadwords.word_apart: (2, 0), sizes.weight: (0, 1), sizes.paper: (0, 0), sizes.is_paper: (0, 2),
}

# And of bundles.
OF_BUNDLES = {
    widths.branches: 0, widths.places: 1, widths.distance: 2, widths.far: 1, widths.grown: 1, widths.waves: 0, widths.is_forced: 1, widths.forced: 0,
    images.image_with: 1, images.image_of: 0, rooms.room: 2,
}

LINE = (
    item(made("u", code("main", ("call", "f"), ("load", 0, "k", 1), ("return",)), piece("k", "const", (1, 2), "own"), spares=("s",))),
    archive("ar", made("v", calls("f"), piece("t", "table", (None, "f")))), ("round", (archive("br", made("w", piece("d", "room", 2))), archive("cr"))),
    library("li", ("lo",), (("x", "data", 2),), (("f", "code", 0, True),)), library("lo"),
)


def line_errors(line, goal):
    """What is due for any two values, None if nothing is."""
    if not plain.is_line(line):
        return ("BadLine", {})
    names = [c[1] for c in plainlink.cards_of(line)]
    if not plain.is_goal(goal) or (goal[0] == "library" and goal[1] in names):
        return ("BadGoal", {})
    for c in plainlink.cards_of(line):
        for x in c[2]:
            if x not in names:
                return ("NoLibrary", {"name": x})
    return None


class LinesTest(unittest.TestCase):
    def check(self, line, goal, functions):
        due = line_errors(line, goal)
        for f in functions:
            told = raised(f, line, goal, *[None] * OF_LINES[f])
            if due is not None:
                self.assertEqual(told, due, (f, line, goal))
            else:
                self.assertNotIn(told[0], ("BadLine", "BadGoal", "NoLibrary"), (f, line, goal))
        return due

    def test_near_lines(self):
        """One thing otherwise at any depth; and the goal wrong, too."""
        self.assertIsNone(line_errors(LINE, MAIN))
        functions = list(OF_LINES)
        seen = {}
        for at, (other, by_kind) in enumerate(near(LINE)):
            some = [functions[(at * 3 + k) % len(functions)] for k in range(3)]
            due = self.check(other, MAIN, some)
            self.check(other, ("library", "li"), some[:1])
            self.assertFalse(by_kind and due is None)
            seen[due and due[0]] = seen.get(due and due[0], 0) + 1
        self.assertGreater(min(seen.get(x, 0) for x in (None, "BadLine", "NoLibrary")), 10, seen)
        for at, other in enumerate(weird_near(LINE)):
            if at % 5 == 0:
                self.check(other, MAIN, [functions[at // 5 % len(functions)]])

    def test_near_goals_and_weird_values(self):
        for goal in [other for goal in (MAIN, ("library", "zz"), ("library", "li")) for other, _ in near(goal)] + list(WEIRD):
            self.check(LINE, goal, OF_LINES)
            self.check(LINE[:-1], goal, OF_LINES)
        for line in WEIRD:
            self.check(line, MAIN, OF_LINES)
            self.check(line, line, OF_LINES)

    def test_near_cards(self):
        """Whatever card there is in a line: what is none makes no line."""
        for other, by_kind in near(LINE[3][1]):
            line = LINE[:3] + (("library", other),) + LINE[4:]
            self.check(line, MAIN, (naming.naming, lots.lots, wantpapers.want_paper, relinking.touched, orders.order))


class WebsTest(unittest.TestCase):
    def test_near_webs(self):
        held = web((0, 2), (0,), knot("a", ("call", 1), ("pick", 0, 4, 1), ("load", 1, 3, 1), ("jump", "x")), knot("b", ("goto", 0)), knot("c", ("stop",)),
                   ("knot", (1, "k"), "const", (1, 2)), ("knot", (1, "t"), "table", (None, 1)), ("knot", (2, "r"), "room", 3))
        functions = list(OF_WEBS)
        for at, (other, _) in enumerate(near(held)):
            right = plain.is_web(other)
            for f in [functions[(at * 4 + k) % len(functions)] for k in range(4)]:
                knots, more = OF_WEBS[f]
                told = raised(f, other, *[None] * (knots + more))
                if not right:
                    self.assertEqual(told, ("BadWeb", {}), f)
                elif knots:
                    self.assertEqual(told, ("BadKnot", {}), f)
                else:
                    self.assertNotIn(told[0], ("BadWeb", "BadKnot"))

    def test_knots(self):
        """BadKnot for any value that is no number of a knot, for the first and for the second."""
        for f, (knots, more) in OF_WEBS.items():
            for thing in WEIRD + (5, -1):
                if not plain.is_web(thing):
                    self.assertEqual(raised(f, thing, *[None] * (knots + more)), ("BadWeb", {}))
                if knots and not (type(thing) is int and 0 <= thing < 5):
                    self.assertEqual(raised(f, FIVE, thing, *[None] * (knots - 1 + more)), ("BadKnot", {}))
                    if knots > 1:
                        self.assertEqual(raised(f, FIVE, 0, thing, *[None] * more), ("BadKnot", {}))


class BundlesTest(unittest.TestCase):
    def test_near_bundles(self):
        others = [other for other, _ in near(HAND)]
        for f, more in OF_BUNDLES.items():
            for other in others + list(WEIRD):
                told = raised(f, other, *[None] * more)
                if plain.is_bundle(other):
                    self.assertNotEqual(told[0], "BadBundle")
                else:
                    self.assertEqual(told, ("BadBundle", {}), f)


if __name__ == "__main__":
    unittest.main()
