"""Which objects of a line become members."""

from onebase.lines import read_line


def members(line, goal):
    """BadLine, BadGoal, NoLibrary; the objects that became members, in that order."""
    return tuple([part.made for part in taken(read_line(line, goal), goal)])


def taken(read, goal):
    """The members, taken apart, of what read_line told of the line."""
    return taking_of(read, goal).taken


def taking_of(read, goal):
    """How members were taken, of what read_line told of the line."""
    taking = Taking(goal)
    for item, shelves in read:
        if item[0] == "object":
            taking.take(shelves[0][0])
        elif item[0] == "library":
            taking.pass_card(item[1])
        else:
            take_round(taking, shelves)
    return taking


def take_round(taking, shelves):
    """Goes through archives in turn until a whole turn brings no member.

    An archive alone may be gone through so, too: its second turn brings none.
    """
    many = -1
    while many < len(taking.taken):
        many = len(taking.taken)
        for shelf in shelves:
            while taking.take_first(shelf):
                pass


class Taking:
    """Members so far, and what is open behind them.

    ways has for each member the open names that brought it in, None for one of
    an object item; wanted has by names the first member that wants each.
    """

    def __init__(self, goal):
        self.taken = []
        self.ways = []
        self.chosen = {}
        self.entry = goal[1] if goal[0] == "program" else None
        self.defined = {}
        self.exported = {}
        self.wanted = {}

    def take(self, part, names=None):
        for x in part.wants():
            self.wanted.setdefault(x, len(self.taken))
        self.taken.append(part)
        self.ways.append(names)
        self.chosen[part.unit[1]] = True
        for piece in part.shown():
            self.defined[piece[1]] = True

    def pass_card(self, card):
        for x, _, _ in card[3]:
            self.exported[x] = True

    def is_sought(self, x):
        """Whether the name is open."""
        if x in self.defined:
            return False
        return x == self.entry or (x in self.wanted and x not in self.exported)

    def take_first(self, shelf):
        """Takes the first object that gives an open name; whether there was one."""
        for part in shelf:
            if part.unit[1] not in self.chosen:
                names = [x for x in part.gives() if self.is_sought(x)]
                if names:
                    self.take(part, names)
                    return True
        return False
