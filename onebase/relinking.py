"""Lines over edits: what is linked behind each, what it makes of the file, and what it touches."""

from onebase.deeds import after
from onebase.files import tree_cells
from onebase.images import linked
from onebase.lines import read_line
from onebase.naming import named_of
from onebase.parting import steps_of
from onebase.patches import patch
from onebase.rows import asks
from onebase.webs import pieces_in, web_from


class Relinker:
    """BadLine, BadGoal, NoLibrary; a line and its goal, led by deeds."""

    def __init__(self, line, goal):
        read_line(line, goal)
        self.now = (line, goal)
        self.done = []
        self.released = ()

    def line(self):
        return self.now[0]

    def goal(self):
        return self.now[1]

    def do(self, deed):
        """BadDeed; does the deed."""
        behind = after(self.now[0], self.now[1], deed)
        self.done.append(self.now)
        self.now = behind

    def undo(self):
        """Whether there was a deed to take back: the last one is."""
        if not self.done:
            return False
        self.now = self.done.pop()
        return True

    def image(self):
        """The errors of linked; the image of the line and goal as they are now."""
        return linked(self.now[0], self.now[1])

    def release(self):
        """The errors of image; the file released last, and a patch that makes the present one of it."""
        file = tree_cells(self.image())
        told = (self.released, patch(self.released, file))
        self.released = file
        return told


def touched(line, goal, deed):
    """The errors of after, of naming on both sides; the ascending pairs of the touched knots."""
    behind, new_goal = after(line, goal, deed)
    old_named, old_parts = named_of(line, goal)
    new_named, new_parts = named_of(behind, new_goal)
    old = told_knots(old_named, old_parts, web_from(old_named, old_parts))
    web = web_from(new_named, new_parts)
    new = told_knots(new_named, new_parts, web)
    spots = list(new)
    changed = [at for at, spot in enumerate(spots) if old.get(spot) != new[spot]]
    return tuple(sorted([spots[at] for at in reaching(web, changed)]))


def told_knots(named, parts, web):
    """By (unit, piece), in the order of the web's knots: sort, body, and where its names lead."""
    names = [part.unit[1] for part in parts]
    spots = [(names[m], x) for _, (m, x), _, _ in web[3]]
    places = {x: place for x, place in named[3]}
    found = {}
    for spot, (_, piece), knot in zip(spots, pieces_in(parts, places), web[3]):
        aims = {}
        for mine, other in zip(asks(piece[2], piece[5]), asks(knot[2], knot[3])):
            lead = other[2]
            # A name stays in its place where it leads by slot.
            aims[mine[2]] = None if isinstance(lead, str) else (spots[lead], web[3][lead][2])
        found[spot] = (piece[2], piece[5], aims)
    return found


def reaching(web, knots):
    """These knots, and all from which steps lead to one of them, however many."""
    leaders = [[] for _ in web[3]]
    for here in range(len(web[3])):
        for step in steps_of(web, here):
            leaders[step].append(here)
    found = {knot: True for knot in knots}
    waiting = list(knots)
    while waiting:
        here = waiting.pop()
        for leader in leaders[here]:
            if leader not in found:
                found[leader] = True
                waiting.append(leader)
    return list(found)
