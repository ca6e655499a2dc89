"""Which objects of a line become members."""

from onebase.asking import defined_by, wanted_by
from onebase.lines import archives_in, check_line
from onebase.objects import unit_in


def members(line, goal):
    """BadLine, BadGoal, NoLibrary; the objects that became members, in that order."""
    check_line(line, goal)
    return taken(line, goal)


def taken(line, goal):
    """As members, of a line and goal that are known to be right."""
    taking = Taking(goal)
    for item in line:
        if item[0] == "object":
            taking.take(item[1], unit_in(item[1]))
        elif item[0] == "library":
            taking.pass_card(item[1])
        else:
            take_round(taking, archives_in(item))
    return tuple(taking.taken)


def take_round(taking, archives):
    """Goes through archives in turn until a whole turn brings no member.

    An archive alone may be gone through so, too: its second turn brings none.
    """
    shelves = [[(made, unit_in(made)) for made in archive[2]] for archive in archives]
    many = -1
    while many < len(taking.taken):
        many = len(taking.taken)
        for shelf in shelves:
            while taking.take_first(shelf):
                pass


class Taking:
    """Members so far, and what is open behind them."""

    def __init__(self, goal):
        self.taken = []
        self.chosen = {}
        self.entry = goal[1] if goal[0] == "program" else None
        self.defined = {}
        self.exported = {}
        self.wanted = {}

    def take(self, made, unit):
        self.taken.append(made)
        self.chosen[unit[1]] = True
        for x, _, _, _ in defined_by(unit):
            self.defined[x] = True
        for x in wanted_by(unit):
            self.wanted[x] = True

    def pass_card(self, card):
        for x, _, _ in card[3]:
            self.exported[x] = True

    def is_sought(self, x):
        """Whether the name is open."""
        if x in self.defined:
            return False
        return x == self.entry or (x in self.wanted and x not in self.exported)

    def take_first(self, shelf):
        """Takes the first object that gives an open name; whether there was one."""
        for made, unit in shelf:
            if unit[1] not in self.chosen and self.brings(unit):
                self.take(made, unit)
                return True
        return False

    def brings(self, unit):
        return any(gives and self.is_sought(x) for x, _, _, gives in defined_by(unit))
