"""What worlds mean: the namings of their plans, and to which instances names lead."""

from onebase.errors import BadInstance, BadName, BadWorld, NoLibrary, OtherCard
from onebase.kinds import are_different, is_number, is_tagged
from onebase.lines import cards_in, is_goal, lacking_in, line_in
from onebase.loading import bound_in, walk
from onebase.naming import named_from
from onebase.rows import asks
from onebase.webs import pieces_in
from onebase.words import is_name

MOST_PLANS = 5


def is_world(thing):
    """Whether any value is a world."""
    return plans_in(thing) is not None


def plans_in(thing):
    """Pairs (goal, items as read_line tells them) of a world's plans, None if it is none."""
    if not isinstance(thing, tuple) or not 1 <= len(thing) <= MOST_PLANS:
        return None
    plans = []
    ahead = []
    for at, plan in enumerate(thing):
        if not is_tagged(plan, "plan", 3) or not is_goal(plan[1]):
            return None
        if (plan[1][0] == "program") != (at == len(thing) - 1):
            return None
        read = line_in(plan[2])
        if read is None or not all(card[1] in ahead for card in cards_in(plan[2])):
            return None
        plans.append((plan[1], read))
        ahead.append(plan[1][1])
    return plans if are_different(ahead[:-1]) else None


def namings(world):
    """BadWorld, OtherCard, the errors of naming; the namings of the plans."""
    return tuple([named for named, _ in named_plans(world)])


def named_plans(world):
    """As namings: for each plan the naming and its members, taken apart."""
    plans = plans_in(world)
    if plans is None:
        raise BadWorld("no world")
    cards = {}
    found = []
    for goal, read in plans:
        told = cards_in([item for item, _ in read])
        for card in told:
            if card != cards[card[1]]:
                raise OtherCard(card[1])
        x = lacking_in(told)
        if x is not None:
            raise NoLibrary(x)
        named, parts = named_from(read, goal)
        found.append((named, parts))
        if goal[0] == "library":
            cards[goal[1]] = card_of_plan(named, told)
    return found


def card_of_plan(named, cards):
    """The card of a plan, by its naming and the cards of its line; of a program, too."""
    _, goal, _, _, wants, exports = named
    name = goal[1] if goal[0] == "library" else ""
    return ("card", name, tuple([card[1] for card in cards]), exports, wants)


class Meaning:
    """The errors of namings, NotLet; to which instance each name of each instance leads.

    scope has the numbers of the plans, the program's first.
    """

    def __init__(self, world):
        plans = named_plans(world)
        self.parts = [parts for _, parts in plans]
        lines = [cards_in(plan[2]) for plan in world]
        number = {plan[1][1]: at for at, plan in enumerate(world[:-1])}
        self.needs = [[number[card[1]] for card in line] for line in lines]
        last = len(world) - 1
        self.scope = [last] + self.needs[last]
        cards = [card_of_plan(plans[at][0], lines[at]) for at in self.scope]
        bound_in(cards)
        self.places = [{x: place for x, place in named[3]} for named, _ in plans]
        self.by_slot = [{want[0]: True for want in named[4]} for named, _ in plans]
        self.bound = {}
        for at, card in zip(self.scope, cards):
            for x, _, _ in card[3]:
                self.bound.setdefault(x, self.chosen(at, x))
        self.names = [plan[1][1] for plan in world[:-1]] + [""]
        self.entry = self.chosen(last, world[last][1][1])

    def chosen(self, at, x):
        """The instance of the chosen piece of this name in a plan."""
        return (at, self.places[at][x][1], x)

    def instances(self):
        """By all instances of the scope their pieces."""
        found = {}
        for at in self.scope:
            for m, piece in pieces_in(self.parts[at], self.places[at]):
                found[(at, m, piece[1])] = piece
        return found

    def lead(self, instance, x):
        """To which instance, or None, a name of an instance's piece leads."""
        at, m, _ = instance
        if x in self.parts[at][m].own:
            return (at, m, x)
        if x in self.by_slot[at]:
            return self.bound.get(x)
        return self.chosen(at, x)

    def starts(self):
        """What begins, in order: the starts, then the entry."""
        found = []
        for at in walk(self.needs, self.scope[0]):
            for m, part in enumerate(self.parts[at]):
                found.extend([(at, m, x) for x in part.unit[3]])
        return found + [self.entry]


def instances(world):
    """The errors of namings, NotLet; the ascending tuple of all instances of the scope."""
    return tuple(sorted(Meaning(world).instances()))


def where(world, instance, name):
    """The errors of instances, BadInstance, BadName; the instance to which a name leads."""
    meaning = Meaning(world)
    pieces = meaning.instances()
    if not is_place(instance) or instance not in pieces:
        raise BadInstance("no instance of the scope")
    _, _, sort, _, _, body = pieces[instance]
    if not is_name(name) or name not in [x for _, _, x, _ in asks(sort, body)]:
        raise BadName("its piece does not lead to the name")
    return meaning.lead(instance, name)


def is_place(thing):
    """Whether any value has the form of an instance."""
    if not isinstance(thing, tuple) or len(thing) != 3:
        return False
    return is_number(thing[0]) and is_number(thing[1]) and is_name(thing[2])
