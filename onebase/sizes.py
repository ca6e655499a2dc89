"""How much partings leave, and papers that show that nothing can be left out or folded."""

from onebase.errors import BadParting
from onebase.folding import bodies_of, told_in
from onebase.keeping import is_road_in
from onebase.kinds import are_numbers_below, is_rising, is_tagged, is_tuple_of
from onebase.parting import is_even_in, is_even_lot, lots_of, numbers_of, rounds_in
from onebase.roadwords import Ways, is_road_word
from onebase.webs import check_web, leads_in

MOST_LETTERS = 200


def weight(web, parting):
    """BadWeb, BadParting; how many bodies the parting leaves, and the sum of their lengths."""
    check_web(web)
    if not is_even_in(web, parting):
        raise BadParting("no even parting")
    knots = [knot for knot, _ in bodies_of(parting, told_in(web))]
    return len(knots), sum([size_of_knot(web[3][knot]) for knot in knots])


def size_of_knot(knot):
    """How many rows, cells or items a knot has."""
    _, _, sort, body = knot
    return body if sort == "room" else len(body)


def paper(web):
    """BadWeb; a paper for the classes of the web."""
    check_web(web)
    return ("paper", roads_in(web), words_in(web))


def roads_in(web):
    """A road to each kept knot."""
    roads = {root: (root,) for root in web[1]}
    waiting = list(roads)
    while waiting:
        here = waiting.pop()
        for knot in leads_in(web, here):
            if knot not in roads:
                roads[knot] = roads[here] + (knot,)
                waiting.append(knot)
    return tuple([roads[knot] for knot in sorted(roads)])


def words_in(web):
    """Words that tell all classes of the web apart, fewer than there are classes."""
    rounds = rounds_in(web)
    ways = Ways(web)
    groups = [[lot[0] for lot in lots_of(rounds[-1])]]
    words = []
    while groups:
        group = groups.pop()
        if len(group) > 1:
            # Each word parts this group at least: so there are fewer words than classes.
            one, other = last_apart(rounds, group)
            word = ways.word_apart(one, other)
            words.append(word)
            groups = [part for held in groups + [group] for part in parted_by(ways, held, word)]
    return tuple(words)


def last_apart(rounds, group):
    """Two of the group that no other two stay together longer than: their word may part others, too."""
    for numbers in reversed(rounds):
        seen = {}
        for knot in group:
            if numbers[knot] in seen:
                return seen[numbers[knot]], knot
            seen[numbers[knot]] = knot
    return group[0], group[1]


def parted_by(ways, group, word):
    """The parts, of those that have more than one knot, into which the word parts a group."""
    found = {}
    for knot in group:
        found.setdefault(ways.along(knot, word), []).append(knot)
    return [part for part in list(found.values()) if len(part) > 1]


def is_paper(web, parting, thing):
    """BadWeb; whether any two values are a parting and a paper that shows that it is that of the classes."""
    check_web(web)
    if not is_whole_parting(web, parting) or not is_tagged(thing, "paper", 3):
        return False
    _, roads, words = thing
    if not is_tuple_of(roads, lambda road: is_road_in(web, road)):
        return False
    lasts = {road[-1]: True for road in roads}
    if not all(knot in lasts for lot in parting for knot in lot):
        return False
    if not is_tuple_of(words, lambda word: is_road_word(word) and len(word) <= MOST_LETTERS):
        return False
    ways = Ways(web)
    seen = {}
    for lot in parting:
        seen[tuple([ways.along(lot[0], word) for word in words])] = True
    return len(seen) == len(parting)


def is_whole_parting(web, thing):
    """Whether any value is an even parting of knots that have all roots and all they lead to."""
    many = len(web[3])
    if not is_tuple_of(thing, lambda lot: are_numbers_below(lot, many)):
        return False
    if not all(lot and is_rising(lot) for lot in thing):
        return False
    number = numbers_of(thing)
    if len(number) != sum([len(lot) for lot in thing]) or not all(root in number for root in web[1]):
        return False
    for knot in number:
        if not all(lead in number for lead in leads_in(web, knot)):
            return False
    return all(is_even_lot(web, lot, number) for lot in thing)
