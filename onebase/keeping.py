"""What is kept of a web, and the roads that show why."""

from onebase.errors import NotKept
from onebase.kinds import are_numbers_below
from onebase.webs import check_knot, check_web, leads_in


def kept(web):
    """BadWeb; the ascending knots to which there are roads."""
    check_web(web)
    return kept_in(web)


def kept_in(web):
    """As kept, of a web that is known to be right."""
    return tuple(sorted(reached(web, web[1], None)))


def reached(web, firsts, barred):
    """A dict of the knots to which roads from some knots lead, none through the barred one."""
    found = {knot: True for knot in firsts if knot != barred}
    waiting = list(found)
    while waiting:
        here = waiting.pop()
        for knot in leads_in(web, here):
            if knot != barred and knot not in found:
                found[knot] = True
                waiting.append(knot)
    return found


def road(web, knot):
    """BadWeb, BadKnot, NotKept; the shortest road to the knot, of several the least."""
    check_knot(web, knot)
    return road_in(web, knot)


def road_in(web, knot):
    """NotKept; as road, of a web and knot that are known to be right."""
    away = ways_to(web, knot)
    starts = [root for root in web[1] if root in away]
    if not starts:
        raise NotKept(knot)
    nearest = min([away[root] for root in starts])
    here = min([root for root in starts if away[root] == nearest])
    found = [here]
    while here != knot:
        nearer = away[here] - 1
        here = min([step for step in leads_in(web, here) if away.get(step, -1) == nearer])
        found.append(here)
    return tuple(found)


def ways_to(web, knot):
    """By knots that lead to the knot, however far, over how few leads they do."""
    leaders = [[] for _ in web[3]]
    for here in range(len(web[3])):
        for lead in leads_in(web, here):
            leaders[lead].append(here)
    away = {knot: 0}
    wave = [knot]
    while wave:
        behind = []
        for here in wave:
            for leader in leaders[here]:
                if leader not in away:
                    away[leader] = away[here] + 1
                    behind.append(leader)
        wave = behind
    return away


def is_road(web, knot, thing):
    """BadWeb, BadKnot; whether any value is a road to the knot."""
    check_knot(web, knot)
    return is_road_in(web, thing) and thing[-1] == knot


def is_road_in(web, thing):
    """Whether any value is a road to its last knot, of a web that is known to be right."""
    if not are_numbers_below(thing, len(web[3])) or not thing or thing[0] not in web[1]:
        return False
    return all(there in leads_in(web, here) for here, there in zip(thing, thing[1:]))


def holders(web, knot):
    """The errors of road; the knots on all roads to the knot, as a road has them."""
    shortest = road(web, knot)
    return tuple([holder for holder in shortest
                  if knot not in reached(web, web[1], holder)])


def freed(web, knot):
    """The errors of road; the ascending kept knots without a road but through the knot."""
    check_knot(web, knot)
    found = kept_in(web)
    if knot not in found:
        raise NotKept(knot)
    others = reached(web, web[1], knot)
    return tuple([other for other in found if other not in others])
