"""The judge of images: whether one does what the names of a line do."""

from onebase.bundles import is_bundle
from onebase.folding import TELLING
from onebase.kinds import is_number
from onebase.lines import cards_in
from onebase.naming import named_of
from onebase.readback import is_image, told_by
from onebase.rows import lead_in, lead_spot
from onebase.webs import web_from


def covers(line, goal, thing):
    """The errors of naming; whether any value is a bundle that covers the line and goal."""
    cover = cover_of(line, goal)
    return is_bundle(thing) and cover.matched(thing) is not None


def carries(line, goal, thing):
    """The errors of naming; whether any value is an image of a bundle that covers them."""
    cover = cover_of(line, goal)
    return is_image(thing) and cover.carried_by(thing) is not None


def cover_of(line, goal):
    """The errors of naming; what a bundle must have to cover the line and goal."""
    named, parts = named_of(line, goal)
    return Cover(named, parts, cards_in(line))


class Cover:
    """What a bundle must have to cover a line, by its naming, its members and its cards."""

    def __init__(self, named, parts, cards):
        self.named = named
        self.cards = cards
        self.web = web_from(self.named, parts)
        units = [part.unit[1] for part in parts]
        self.number = {}
        for k, (_, (m, x), _, _) in enumerate(self.web[3]):
            self.number[(units[m], x)] = k
        self.starts = [self.number[(part.unit[1], x)] for part in parts for x in part.unit[3]]
        # Each name that has a piece leads to the chosen one, own ones stand in no table.
        self.chosen = {}
        for x, place in self.named[3]:
            if place[0] == "piece":
                self.chosen[x] = self.number[(units[place[1]], x)]

    def carried_by(self, image):
        """As matched, of an image; None also if it is of no bundle."""
        told = told_by(image)
        return None if told is None else self.matched(told[0])

    def matched(self, bundle):
        """How the bundle covers the line and goal, None if it does not."""
        _, goal, _, _, wants, _ = self.named
        name = goal[1] if goal[0] == "library" else ""
        needs = tuple([card[1] for card in self.cards])
        if bundle[1] != name or bundle[3] != needs or bundle[4] != wants:
            return None
        lots = []
        for part in bundle[7]:
            if not all(pair in self.number for pair in part[2]):
                return None
            lots.append({self.number[pair]: True for pair in part[2]})
        if not self.are_of_sort(bundle[7], lots):
            return None
        matching = Matching(self.web, bundle[7], lots)
        if self.begins_well(bundle, lots, matching) and matching.fits():
            return matching
        return None

    def are_of_sort(self, parts, lots):
        """Whether lots have knots of their bodies' sort, data and rooms alone and once."""
        seen = {}
        for part, lot in zip(parts, lots):
            for knot in lot:
                if self.web[3][knot][2] != part[1]:
                    return False
                if part[1] in ("data", "room"):
                    if len(lot) > 1 or knot in seen:
                        return False
                    seen[knot] = True
        return True

    def begins_well(self, bundle, lots, matching):
        """Whether entry, starts and exports lead to bodies of their knots."""
        _, goal, _, _, _, exports = self.named
        _, _, entry, _, _, starts, shown, _ = bundle
        if goal[0] == "program" and self.chosen[goal[1]] not in lots[entry]:
            return False
        if len(starts) != len(self.starts) or [x for x, _ in shown] != [x for x, _, _ in exports]:
            return False
        if not all(knot in lots[start] for knot, start in zip(self.starts, starts)):
            return False
        for x, index in shown:
            knot = self.chosen[x]
            if knot not in lots[index]:
                return False
            if self.web[3][knot][2] == "code" and not matching.has_place(knot, index):
                return False
        return True


class Matching:
    """Whether bodies are, row by row and item by item, what the knots of their lots are.

    lots has for each body the knots in its lot; place by knots the body that is
    the place of each, shown by bodies the knot of which each is the place.
    """

    def __init__(self, web, parts, lots):
        self.web = web
        self.parts = parts
        self.lots = lots
        self.place = {}
        self.shown = {}

    def has_place(self, knot, index):
        """Whether the knot may have its place there, which it then has."""
        return self.place.setdefault(knot, index) == index and self.shown.setdefault(index, knot) == knot

    def fits(self):
        for b, lot in enumerate(self.lots):
            for knot in lot:
                if not self.is_like(knot, b):
                    return False
        return True

    def is_like(self, knot, b):
        _, _, sort, told = self.web[3][knot]
        body = self.parts[b][3]
        if sort not in ("code", "table"):
            return told == body
        if len(told) != len(body):
            return False
        for mine, other in zip(told, body):
            if sort == "code":
                if not self.is_like_row(knot, b, mine, other):
                    return False
            elif mine is None or other is None:
                if mine is not None or other is not None:
                    return False
            elif not self.is_like_lead("item of", mine, other):
                return False
        return True

    def is_like_row(self, knot, b, mine, other):
        """Whether a row of the body is as that of the knot."""
        if mine[0] == "jump" and other == ("goto", 0):
            return mine[1] in self.lots[b]
        if mine == ("goto", 0) and other[0] == "jump":
            return is_number(other[1]) and knot in self.lots[other[1]]
        at = lead_spot(mine[0])
        if at is None or mine[0] != other[0]:
            return mine == other
        if mine[:at] != other[:at] or mine[at + 1:] != other[at + 1:]:
            return False
        return self.is_like_lead(mine[0], lead_in(mine), lead_in(other))

    def is_like_lead(self, word, mine, other):
        if not is_number(mine) or not is_number(other):
            return mine == other
        return mine in self.lots[other] and (word not in TELLING or self.has_place(mine, other))
