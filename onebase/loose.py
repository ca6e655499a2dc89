"""Bundles of lines in which less is folded than can be, and bodies stand in any order."""

from onebase.bundles import bundle_with
from onebase.errors import BadLots, BadOrder
from onebase.folding import bodies_of, told_in
from onebase.kinds import are_numbers_below
from onebase.lines import cards_in
from onebase.naming import named_of
from onebase.parting import is_even_in
from onebase.webs import web_from


def loose(line, goal, lots, order):
    """The errors of naming, BadLots, BadOrder; the bundle with a body for each told knot or lot."""
    named, parts = named_of(line, goal)
    web = web_from(named, parts)
    if not is_even_in(web, lots):
        raise BadLots("no even parting of the line's web")
    held = bodies_of(lots, told_in(web))
    if not are_numbers_below(order, len(web[3])) or sorted(order) != [knot for knot, _ in held]:
        raise BadOrder("no order of the knots that have bodies")
    return bundle_with(named, web, cards_in(line), held, order)
