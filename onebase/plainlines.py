"""Plain lines, in which each name has one definition, and what is needed of them."""

from onebase.errors import NotPlain
from onebase.lines import cards_in, read_line
from onebase.naming import definitions, refuse_missing, spare_names

# The bit of whoever wants the entry, which stands ahead of all units.
ENTRY = 1


def needed(line, goal):
    """NotPlain, Missing; the ascending names of the units of the least closed lot."""
    return tuple(sorted([part.unit[1] for part in plain_line(line, goal).parts]))


def plain_line(line, goal):
    """The errors of needed; the plain line."""
    read = read_line(line, goal)
    refuse_double(read)
    return PlainLine(read, goal)


def refuse_double(read):
    """NotPlain for the least name that two define, of what read_line told of a line."""
    many = {}
    for _, shelves in read:
        for shelf in shelves:
            for part in shelf:
                for piece in part.shown():
                    many[piece[1]] = many.get(piece[1], 0) + 1
    for card in cards_in([item for item, _ in read]):
        for x, _, _ in card[3]:
            many[x] = many.get(x, 0) + 1
    doubles = [x for x in many if many[x] > 1]
    if doubles:
        raise NotPlain(min(doubles))


class PlainLine:
    """Missing; the needed units of a plain line, and behind which of them items come.

    parts has the needed objects, taken apart. Lots of them are told by numbers
    that have a bit for each, and one for the entry, which every lot has.
    """

    def __init__(self, read, goal):
        self.many = len(read)
        self.line = [item for item, _ in read]
        self.parts = closed_parts(read, goal)
        spares = spare_names(self.parts)
        definers = definitions([part.unit for part in self.parts])
        refuse_missing(goal, spares, cards_in(self.line), definers)
        bits = {part.unit[1]: 2 << at for at, part in enumerate(self.parts)}
        self.bits = [sum([bits.get(part.unit[1], 0) for shelf in shelves for part in shelf])
                     for _, shelves in read]
        self.wanting = wanting_lots(self.parts, goal)

    def lot_of(self, numbers):
        """The needed units of these items."""
        return ENTRY | sum([self.bits[n] for n in numbers])

    def is_free(self, n):
        """Whether the item comes behind any lot."""
        return self.line[n][0] in ("object", "library")

    def comes(self, n, lot):
        """Whether the item comes behind a lot of needed units."""
        return self.is_free(n) or self.follow(self.bits[n], lot)

    def come_together(self, numbers, lot):
        """Whether these items, two at least, come together behind a lot of needed units."""
        if any(self.is_free(n) for n in numbers):
            return False
        return self.follow(sum([self.bits[n] for n in numbers]), lot)

    def follow(self, due, lot):
        """Whether all due units become members behind the lot.

        Each name has one definition: so one becomes a member as soon as a
        member wants what it gives, and never hinders another one.
        """
        waiting = [at for at in range(len(self.parts)) if due & (2 << at) and not lot & (2 << at)]
        many = -1
        while waiting and many != len(waiting):
            many = len(waiting)
            for at in waiting:
                if self.wanting[at] & lot:
                    lot = lot | (2 << at)
            waiting = [at for at in waiting if not lot & (2 << at)]
        return not waiting


def closed_parts(read, goal):
    """The objects of the least closed lot of a plain line."""
    givers = {}
    found = []
    for item, shelves in read:
        for shelf in shelves:
            for part in shelf:
                for x in part.gives():
                    givers[x] = part
        if item[0] == "object":
            found.append(shelves[0][0])
    seen = {part.unit[1]: True for part in found}
    waiting = [x for part in found for x in part.wants()]
    if goal[0] == "program":
        waiting.append(goal[1])
    while waiting:
        part = givers.get(waiting.pop())
        if part is not None and part.unit[1] not in seen:
            seen[part.unit[1]] = True
            found.append(part)
            waiting.extend(part.wants())
    return found


def wanting_lots(parts, goal):
    """For each of these objects the lot of those that want what it gives."""
    wanting = {}
    if goal[0] == "program":
        wanting[goal[1]] = ENTRY
    for at, part in enumerate(parts):
        for x in part.wants():
            wanting[x] = wanting.get(x, 0) | (2 << at)
    found = []
    for part in parts:
        lot = 0
        for x in part.gives():
            lot = lot | wanting.get(x, 0)
        found.append(lot)
    return found
