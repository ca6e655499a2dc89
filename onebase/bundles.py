"""Bundles: what is laid out as an image."""

from onebase.errors import BadBundle
from onebase.folding import bodies_in, folded_from, mains_of
from onebase.kinds import (
    are_different, is_number, is_one_of, is_rising, is_tagged, is_tuple_of, is_word, within,
)
from onebase.lines import are_needs, are_wants, cards_in
from onebase.naming import named_of
from onebase.rows import SORTS, asks, has_body_form, is_served, reaches, suits, with_leads
from onebase.webs import is_lead, web_from
from onebase.words import is_name

MOST_BODIES = 200


def is_bundle(thing):
    """Whether any value is a bundle."""
    if not is_tagged(thing, "bundle", 8):
        return False
    _, name, entry, needs, wants, starts, exports, parts = thing
    if not is_word(name, "") and not is_name(name):
        return False
    if not are_needs(needs, name) or not are_wants(wants):
        return False
    if not is_tuple_of(parts, is_body) or len(parts) > MOST_BODIES:
        return False
    order = [SORTS.index(part[1]) for part in parts]
    if order != sorted(order) or not are_beginnings(name, entry, starts, parts):
        return False
    return are_exported(exports, parts) and are_led_well(wants, parts)


def is_body(thing):
    """Whether any value has the form of a body, whatever its leads lead to."""
    if not is_tagged(thing, "body", 4):
        return False
    _, sort, lot, body = thing
    if not is_one_of(sort, SORTS) or not is_tuple_of(lot, is_pair) or not lot:
        return False
    return are_different(lot) and has_body_form(sort, body, is_lead)


def is_pair(thing):
    return is_tuple_of(thing, is_name) and len(thing) == 2


def are_beginnings(name, entry, starts, parts):
    """Whether any values are the entry and the starts of a bundle of this name."""
    if not is_tuple_of(starts, lambda start: is_code_index(start, parts)):
        return False
    if name == "":
        return is_code_index(entry, parts)
    return entry is None


def is_code_index(thing, parts):
    return within(thing, 0, len(parts) - 1) and parts[thing][1] == "code"


def are_exported(thing, parts):
    """Whether any value is what a bundle with these bodies exports."""
    if not is_tuple_of(thing, lambda pair: is_export_pair(pair, len(parts))):
        return False
    return is_rising([pair[0] for pair in thing])


def is_export_pair(thing, many):
    return (isinstance(thing, tuple) and len(thing) == 2 and is_name(thing[0])
            and within(thing[1], 0, many - 1))


def are_led_well(wants, parts):
    """Whether each lead of each body leads to what serves."""
    wanted = {x: (sort, many) for x, sort, many, _ in wants}
    for index, (_, sort, _, body) in enumerate(parts):
        for _, word, lead, k in asks(sort, body):
            if word == "jump" and lead == index:
                return False
            if not is_led_well(word, lead, k, wanted, parts):
                return False
    return True


def is_led_well(word, lead, k, wanted, parts):
    if is_number(lead):
        if not 0 <= lead < len(parts):
            return False
        return is_served(word, k, parts[lead][1], parts[lead][3])
    if lead not in wanted:
        return False
    sort, many = wanted[lead]
    return suits(word, sort) and reaches(word, k, many)


def check_bundle(bundle):
    if not is_bundle(bundle):
        raise BadBundle("no bundle")


def bundle_of(line, goal):
    """The errors of naming, and TooMany(200) of webs; the bundle of the folded web."""
    named, parts = named_of(line, goal)
    return bundle_from(named, web_from(named, parts), cards_in(line))


def bundle_from(named, web, cards):
    """As bundle_of, of the line's naming, its web and its cards."""
    lots = bodies_in(web)
    return bundle_with(named, web, cards, lots, [knot for knot, _ in lots])


def bundle_with(named, web, cards, lots, order):
    """The bundle with these bodies: ascending pairs as bodies tells them, laid out in an order.

    The order tells the knots; each sort has its bodies in this order.
    """
    _, goal, members, table, wants, exports = named
    made, index = bodies_from(web, lots, [part[1] for part in members], order)
    mains = {knot: index[body] for knot, body in mains_of(lots).items()}
    spots = {knot[1]: number for number, knot in enumerate(web[3])}
    chosen = {x: spots[(place[1], x)] for x, place in table if place[0] == "piece"}
    starts = [mains[spots[(m, x)]] for m, part in enumerate(members) for x in part[3]]
    shown = []
    for x, sort, _ in exports:
        # Code that is exported is told: it has a body of its own.
        shown.append((x, index[chosen[x]] if sort == "code" else mains[chosen[x]]))
    name, entry = "", None
    if goal[0] == "program":
        entry = mains[chosen[goal[1]]]
    else:
        name = goal[1]
    needs = tuple([card[1] for card in cards])
    return ("bundle", name, entry, needs, wants, tuple(starts), tuple(shown), made)


def bodies_from(web, lots, names, order):
    """The bundle's bodies, and by knots that have one its index among them.

    names are those of the members' units.
    """
    knots = folded_from(web, lots)[3]
    spots = {knot: at for at, (knot, _) in enumerate(lots)}
    places = [spots[knot] for sort in SORTS for knot in order if web[3][knot][2] == sort]
    moved = {at: new for new, at in enumerate(places)}
    made = []
    for new, at in enumerate(places):
        pairs = [web[3][knot][1] for knot in lots[at][1]]
        lot = tuple([(names[m], x) for m, x in pairs])
        made.append(("body", knots[at][2], lot, moved_body(knots[at], moved, new)))
    return tuple(made), {lots[at][0]: new for at, new in moved.items()}


def moved_body(knot, moved, index):
    """The knot's body with its leads moved along, for the body of this index."""
    _, _, sort, body = knot
    body = with_leads(sort, body, lambda _, lead: moved[lead] if is_number(lead) else lead)
    if sort != "code":
        return body
    return tuple([("goto", 0) if row == ("jump", index) else row for row in body])
