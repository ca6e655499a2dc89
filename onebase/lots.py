"""Lots of objects of archives that can be members together, and those that never can."""

from onebase.errors import TooMany
from onebase.kinds import is_rising, is_tuple_of
from onebase.lines import cards_in, read_line
from onebase.naming import definitions, is_firm
from onebase.parts import LINE_SORTS
from onebase.words import is_name

MOST_UNITS = 8


def lots(line, goal):
    """BadLine, BadGoal, NoLibrary, TooMany; the ascending lots that hold."""
    holding = holding_of(line, goal)
    return tuple(sorted([holding.told(lot) for lot in range(holding.many) if holding.holds(lot)]))


def bars(line, goal):
    """BadLine, BadGoal, NoLibrary, TooMany; the ascending least bars."""
    holding = holding_of(line, goal)
    good = holding.extendable()
    found = []
    for lot in range(holding.many):
        # What lies in a lot that can be extended can be extended, too.
        if not good[lot] and all(good[lot - bit] for bit in holding.bits_of(lot)):
            found.append(holding.told(lot))
    return tuple(sorted(found))


def holding_of(line, goal):
    """BadLine, BadGoal, NoLibrary, TooMany; what lots of the line must have to hold."""
    holding = Holding(read_line(line, goal), goal)
    holding.check_size()
    return holding


class Holding:
    """What lots of a line must have to hold, of what read_line told of it.

    Lots are numbers with a bit for each unit of archives; those of object
    items, which always are members, have none. many is how many lots there
    are, parts has all objects in the order of the line. doubles are (lot, name,
    unit, unit): the lot is not to be had together. demands are (lot, name, unit
    or None, definers): with the lot one of these parts, by number, is to be had.
    """

    def __init__(self, read, goal):
        self.parts = []
        self.bit = {}
        fixed = {}
        for item, shelves in read:
            for part in [part for shelf in shelves for part in shelf]:
                if item[0] == "object":
                    fixed[part.unit[1]] = True
                else:
                    self.bit[part.unit[1]] = 1 << len(self.bit)
                self.parts.append(part)
        self.many = 1 << len(self.bit)
        self.names = [part.unit[1] for part in self.parts]
        self.definers = definitions([part.unit for part in self.parts])
        self.doubles = []
        for x in self.definers:
            self.find_doubles(x)
        # What an object item defines is never missing.
        settled = {x: True for x in self.definers if self.is_defined_by(x, fixed)}
        exported = {x: True for card in cards_in([item for item, _ in read]) for x, _, _ in card[3]}
        self.demands = []
        if goal[0] == "program" and goal[1] not in settled:
            self.demands.append((0, goal[1], None, self.defining(goal[1])))
        for part in self.parts:
            for x in part.wants():
                if x not in settled and x not in exported:
                    name = part.unit[1]
                    self.demands.append((self.bit.get(name, 0), x, name, self.defining(x)))

    def is_defined_by(self, x, units):
        """Whether one of these units defines the name."""
        return any(self.names[at] in units for at, _ in self.definers[x])

    def defining(self, x):
        """The numbers of the parts that define a name, in the order of the line."""
        return [at for at, _ in self.definers.get(x, [])]

    def find_doubles(self, x):
        pairs = self.definers[x]
        for behind, (b, other) in enumerate(pairs):
            for a, piece in pairs[:behind]:
                unlike = LINE_SORTS[piece[2]] != LINE_SORTS[other[2]]
                if unlike or (is_firm(piece) and is_firm(other)):
                    lot = self.bit.get(self.names[a], 0) | self.bit.get(self.names[b], 0)
                    self.doubles.append((lot, x, self.names[a], self.names[b]))

    def check_size(self):
        if len(self.bit) > MOST_UNITS:
            raise TooMany(MOST_UNITS)

    def bits_of(self, lot):
        return [self.bit[name] for name in self.bit if self.bit[name] & lot]

    def told(self, lot):
        """The lot as an ascending tuple of names."""
        return tuple(sorted([name for name in self.bit if self.bit[name] & lot]))

    def is_lot(self, thing):
        """Whether any value is a lot, as an ascending tuple of names."""
        return (is_tuple_of(thing, is_name) and is_rising(thing)
                and all(name in self.bit for name in thing))

    def lot_of(self, names):
        """The lot of these names."""
        return sum([self.bit[name] for name in names])

    def double_in(self, lot):
        """The first that is not to be had together, and is in the lot; None if nothing is."""
        for double in self.doubles:
            if double[0] & lot == double[0]:
                return double
        return None

    def demand_in(self, lot):
        """The first demand that the lot has and does not meet, None if there is none."""
        for demand in self.demands:
            if demand[0] & lot == demand[0] and not any(
                    self.bit[self.names[at]] & lot for at in demand[3]):
                return demand
        return None

    def holds(self, lot):
        return self.double_in(lot) is None and self.demand_in(lot) is None

    def extendable(self):
        """For each lot whether it lies in one that holds."""
        good = [False] * self.many
        for lot in reversed(range(self.many)):
            more = [self.bit[name] for name in self.bit if not self.bit[name] & lot]
            good[lot] = self.holds(lot) or any(good[lot + bit] for bit in more)
        return good
