"""Webs folded: one body for all knots that are alike, but for told ones."""

from onebase.keeping import kept_in
from onebase.kinds import is_number
from onebase.parting import classes_in
from onebase.rows import asks, with_leads
from onebase.webs import check_web

# Words that show the place of what they lead to.
TELLING = ("take", "item of")


def told(web):
    """BadWeb; the ascending kept code that has a place which can be seen."""
    check_web(web)
    return told_in(web)


def told_in(web):
    """As told, of a web that is known to be right."""
    found = {out: True for out in web[2] if web[3][out][2] == "code"}
    for knot in kept_in(web):
        _, _, sort, body = web[3][knot]
        for _, word, lead, _ in asks(sort, body):
            if word in TELLING and is_number(lead):
                found[lead] = True
    return tuple(sorted(found))


def bodies(web):
    """BadWeb; the pairs (knot, lot) of all bodies, knots ascending."""
    check_web(web)
    return bodies_in(web)


def bodies_in(web):
    """As bodies, of a web that is known to be right."""
    return bodies_of(classes_in(web), told_in(web))


def bodies_of(lots, seen):
    """The ascending pairs (knot, lot) of all bodies that lots have of which some knots are told."""
    found = []
    for lot in lots:
        shown = [knot for knot in lot if knot in seen]
        for knot in shown or [lot[0]]:
            found.append((knot, lot))
    return tuple(sorted(found))


def main(web):
    """BadWeb; the dict from each kept knot to its class's main body."""
    check_web(web)
    return mains_of(bodies_in(web))


def mains_of(parts):
    """By the knots of all lots, ascending, the first body that has each of them."""
    firsts = {}
    for body, lot in parts:
        for knot in lot:
            firsts.setdefault(knot, body)
    return {knot: firsts[knot] for knot in sorted(firsts)}


def folded(web):
    """BadWeb; the web of the bodies alone."""
    check_web(web)
    return folded_from(web, bodies_in(web))


def folded_from(web, parts):
    """As folded, of a web that is known to be right and its bodies."""
    _, roots, outs, knots = web
    index = {knot: at for at, (knot, _) in enumerate(parts)}
    mains = mains_of(parts)
    own = [out for out in outs if knots[out][2] == "code"]
    others = [out for out in outs if knots[out][2] != "code"]
    new_roots = {index[mains[root]]: True for root in roots}
    new_outs = {index[mains[out]]: True for out in others}
    for out in own:
        new_roots[index[out]] = True
        new_outs[index[out]] = True
    made = [folded_knot(knots[knot], index, mains) for knot, _ in parts]
    return ("web", tuple(sorted(new_roots)), tuple(sorted(new_outs)), tuple(made))


def folded_knot(knot, index, mains):
    _, spot, sort, body = knot
    body = with_leads(sort, body, lambda word, lead: folded_lead(word, lead, index, mains))
    return ("knot", spot, sort, body)


def folded_lead(word, lead, index, mains):
    if not is_number(lead):
        return lead
    if word in TELLING:
        return index[lead]
    return index[mains[lead]]
