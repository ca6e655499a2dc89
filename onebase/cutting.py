"""The least cut of a knot, and as many roads to it that share nothing."""

from onebase.errors import NotKept, Rooted
from onebase.keeping import kept_in
from onebase.webs import check_knot, leads_in


def cut(web, knot):
    """The errors of road, Rooted; the least cut of the knot, that nearest to the roots."""
    flow = flow_to(web, knot)
    reached = flow.reached()
    return tuple([here for here in flow.knots
                  if entering(here) in reached and leaving(here) not in reached])


def roads_apart(web, knot):
    """The errors of road, Rooted; as many roads as the cut has knots, sharing only the last."""
    return tuple(flow_to(web, knot).roads())


def flow_to(web, knot):
    check_knot(web, knot)
    knots = kept_in(web)
    if knot not in knots:
        raise NotKept(knot)
    if knot in web[1]:
        raise Rooted(knot)
    flow = Flow(web, knots, knot)
    while flow.grow():
        pass
    return flow


# A knot is parted in two places, so that what flows through it can be counted.
SOURCE = -1


def entering(knot):
    return 2 * knot


def leaving(knot):
    return 2 * knot + 1


class Flow:
    """What flows from the roots to the knot, at most once through each other one.

    left tells, place by place, how much more may flow from there to where; what
    flows there already may flow back.
    """

    def __init__(self, web, knots, knot):
        self.web = web
        self.knots = knots
        self.knot = knot
        self.left = {SOURCE: {}}
        for here in knots:
            self.left[entering(here)] = {leaving(here): 1}
            self.left[leaving(here)] = {}
        # Only knots bound what flows; so between them there is always enough.
        for root in web[1]:
            self.left[SOURCE][entering(root)] = len(knots)
        for here in knots:
            for there in leads_in(web, here):
                if there != here:
                    self.left[leaving(here)][entering(there)] = len(knots)

    def reached(self):
        """By the places to which more could flow the places just ahead of them."""
        ahead = {SOURCE: None}
        wave = [SOURCE]
        while wave:
            behind = []
            for place in wave:
                for there, many in self.left[place].items():
                    if many > 0 and there not in ahead:
                        ahead[there] = place
                        behind.append(there)
            wave = behind
        return ahead

    def grow(self):
        """Lets more flow along a shortest way; whether there was one."""
        ahead = self.reached()
        there = entering(self.knot)
        if there not in ahead:
            return False
        while there != SOURCE:
            place = ahead[there]
            self.left[place][there] -= 1
            self.left[there][place] = self.left[there].get(place, 0) + 1
            there = place
        return True

    def flows(self, here, there):
        """Whether something flows from one knot to the other."""
        return self.left[entering(there)].get(leaving(here), 0) > 0

    def roads(self):
        found = []
        for root in self.web[1]:
            if self.left[entering(root)].get(SOURCE, 0) > 0:
                way = [root]
                while way[-1] != self.knot:
                    way.append(self.behind(way[-1]))
                found.append(tuple(way))
        return found

    def behind(self, here):
        """The knot to which it flows on from a knot through which something flows."""
        for there in leads_in(self.web, here):
            if there != here and self.flows(here, there):
                return there
        return self.knot
