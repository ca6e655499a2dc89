"""Papers that show of lots of objects that they can, or never can, be members together."""

from onebase.errors import BadLot
from onebase.kinds import are_numbers_below, is_tagged
from onebase.lines import read_line
from onebase.lots import Holding


def lot_with(line, goal, lot):
    """BadLot, TooMany; ("lot", one that holds and has all of it), or ("bar", a paper)."""
    holding = holding_beside(line, goal, lot)
    here = holding.lot_of(lot)
    for other in range(holding.many):
        if other & here == here and holding.holds(other):
            return ("lot", holding.told(other))
    showing = Showing(holding)
    last = showing.show(here)
    return ("bar", tuple(showing.steps[:last + 1]))


def holding_beside(line, goal, lot):
    """BadLine, BadGoal, NoLibrary, BadLot, TooMany; what lots must have to hold."""
    holding = Holding(read_line(line, goal), goal)
    if not holding.is_lot(lot):
        raise BadLot("no lot of this line's archives")
    holding.check_size()
    return holding


class Showing:
    """Steps of papers for lots of which it is known that they are bars."""

    def __init__(self, holding):
        self.holding = holding
        self.steps = []
        self.lots = []
        self.shown = {}

    def show(self, lot):
        """The number of a step, added if need be, whose lot lies in the bar."""
        if lot not in self.shown:
            self.shown[lot] = self.step_for(lot)
        return self.shown[lot]

    def step_for(self, lot):
        double = self.holding.double_in(lot)
        if double is not None:
            mask, x, a, b = double
            return self.put(mask, ("two", x, a, b))
        # With any one definer more it is a bar, too: of these is shown first.
        mask, x, a, definers = self.holding.demand_in(lot)
        rows = []
        for at in definers:
            bit = self.holding.bit[self.holding.names[at]]
            row = self.show(lot | bit)
            if not self.lots[row] & bit:
                return row
            rows.append(row)
            mask = mask | (self.lots[row] - bit)
        return self.put(mask, ("wants", x, a, tuple(rows)))

    def put(self, lot, why):
        self.steps.append((self.holding.told(lot), why))
        self.lots.append(lot)
        return len(self.steps) - 1


def is_lot_with(line, goal, lot, thing):
    """BadLot, TooMany; whether any value is a pair as lot_with tells it."""
    holding = holding_beside(line, goal, lot)
    if is_tagged(thing, "lot", 2):
        if not holding.is_lot(thing[1]) or not all(name in thing[1] for name in lot):
            return False
        return holding.holds(holding.lot_of(thing[1]))
    if not is_tagged(thing, "bar", 2):
        return False
    told = lots_shown(holding, thing[1])
    return bool(told) and told[-1] & holding.lot_of(lot) == told[-1]


def lots_shown(holding, thing):
    """The lots of the steps of any value that is a paper, otherwise None."""
    if not isinstance(thing, tuple):
        return None
    found = []
    for step in thing:
        if not isinstance(step, tuple) or len(step) != 2 or not holding.is_lot(step[0]):
            return None
        lot = lot_told(holding, step[1], found)
        if lot is None or lot != holding.lot_of(step[0]):
            return None
        found.append(lot)
    return found


def lot_told(holding, why, ahead):
    """The lot of a step with this why, behind steps with these lots; None if it is no why."""
    if is_tagged(why, "two", 4):
        for double in holding.doubles:
            if is_told(why[1:], double[1:]):
                return double[0]
        return None
    if not is_tagged(why, "wants", 4) or not are_numbers_below(why[3], len(ahead)):
        return None
    for lot, x, a, definers in holding.demands:
        if is_told(why[1:3], (x, a)):
            return with_rows(holding, lot, definers, [ahead[row] for row in why[3]])
    return None


def with_rows(holding, lot, definers, rows):
    """The lot and all of the rows' lots, but of each its definer; None if one lacks its own."""
    if len(rows) != len(definers):
        return None
    for at, row in zip(definers, rows):
        bit = holding.bit[holding.names[at]]
        if not row & bit:
            return None
        lot = lot | (row - bit)
    return lot


def is_told(things, told):
    """Whether values of any kind are just these words, or None."""
    for thing, word in zip(things, told):
        if word is None:
            if thing is not None:
                return False
        elif not isinstance(thing, str) or thing != word:
            return False
    return True
