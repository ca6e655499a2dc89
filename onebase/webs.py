"""Webs: the pieces of one image, told by numbers."""

from onebase.errors import BadKnot, BadWeb, TooMany
from onebase.kinds import (
    are_different, are_numbers_below, is_number, is_one_of, is_rising, is_tagged, is_tuple_of,
    within,
)
from onebase.naming import named_of
from onebase.rows import SORTS, asks, has_body_form, is_served, with_leads
from onebase.words import is_name

MOST_KNOTS = 200


def is_web(thing):
    """Whether any value is a web."""
    if not is_tagged(thing, "web", 4):
        return False
    _, roots, outs, knots = thing
    if not is_tuple_of(knots, is_knot) or len(knots) > MOST_KNOTS:
        return False
    if not are_different([knot[1] for knot in knots]):
        return False
    if not are_numbers_below(roots, len(knots)) or not are_numbers_below(outs, len(knots)):
        return False
    if not is_rising(roots) or not is_rising(outs) or not all(out in roots for out in outs):
        return False
    return all(leads_well(knot, knots) for knot in knots)


def is_knot(thing):
    """Whether any value has the form of a knot, whatever its leads lead to."""
    if not is_tagged(thing, "knot", 4):
        return False
    _, spot, sort, body = thing
    if not isinstance(spot, tuple) or len(spot) != 2:
        return False
    if not is_number(spot[0]) or spot[0] < 0 or not is_name(spot[1]):
        return False
    return is_one_of(sort, SORTS) and has_body_form(sort, body, is_lead)


def is_lead(thing):
    return is_number(thing) or is_name(thing)


def leads_well(knot, knots):
    """Whether each lead that is a number leads to a knot that serves."""
    for _, word, lead, k in asks(knot[2], knot[3]):
        if is_number(lead):
            if not 0 <= lead < len(knots):
                return False
            if not is_served(word, k, knots[lead][2], knots[lead][3]):
                return False
    return True


def web_of(line, goal):
    """The errors of naming, TooMany(200); the web of the line."""
    named, parts = named_of(line, goal)
    return web_from(named, parts)


def web_from(named, parts):
    """As web_of, of the line's naming and its members, taken apart."""
    _, goal, _, table, wants, exports = named
    places = {x: place for x, place in table}
    pieces = pieces_in(parts, places)
    if len(pieces) > MOST_KNOTS:
        raise TooMany(MOST_KNOTS)
    spots = {(m, piece[1]): number for number, (m, piece) in enumerate(pieces)}
    by_slot = {x: True for x, _, _, _ in wants}
    aims = [aims_of(m, part, spots, places, by_slot) for m, part in enumerate(parts)]
    knots = tuple([knot_from(m, piece, aims[m]) for m, piece in pieces])
    outs = [spots[(places[x][1], x)] for x, _, _ in exports]
    roots = {out: True for out in outs}
    for m, part in enumerate(parts):
        for x in part.unit[3]:
            roots[spots[(m, x)]] = True
    if goal[0] == "program":
        roots[spots[(places[goal[1]][1], goal[1])]] = True
    return ("web", tuple(sorted(roots)), tuple(sorted(outs)), knots)


def pieces_in(parts, places):
    """Pairs (member, piece) of all but the definitions that were not chosen."""
    pieces = []
    for m, part in enumerate(parts):
        for piece in part.unit[4]:
            if piece[3] == "own" or places[piece[1]][1] == m:
                pieces.append((m, piece))
    return pieces


def aims_of(m, part, spots, places, by_slot):
    """By the names that a member leads to the lead that stands for each in webs."""
    aims = {}
    for x in part.spares():
        aims[x] = x if x in by_slot else spots[(places[x][1], x)]
    for x in part.own:
        aims[x] = spots[(m, x)]
    return aims


def knot_from(m, piece, aims):
    _, name, sort, _, _, body = piece
    return ("knot", (m, name), sort, with_leads(sort, body, lambda word, x: aims[x]))


def check_web(web):
    if not is_web(web):
        raise BadWeb("no web")


def check_knot(web, knot):
    """BadWeb, BadKnot: what is raised ahead of all else for a web and one of its knots."""
    check_web(web)
    check_number(web, knot)


def check_number(web, knot):
    if not within(knot, 0, len(web[3]) - 1):
        raise BadKnot("no number of a knot")


def leads(web, knot):
    """BadWeb, BadKnot; the ascending knots to which the knot's body leads."""
    check_knot(web, knot)
    return leads_in(web, knot)


def leads_in(web, knot):
    """As leads, of a web and knot that are known to be right."""
    _, _, sort, body = web[3][knot]
    found = {lead: True for _, _, lead, _ in asks(sort, body) if is_number(lead)}
    return tuple(sorted(found))
