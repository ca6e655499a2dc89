"""Naming: to which piece each name of a line leads."""

from onebase.errors import (
    BadMember, BadName, BadNaming, Missing, TooShort, TwoSorts, TwoStrong, WrongSort,
)
from onebase.kinds import is_tagged, within
from onebase.lines import cards_in, is_goal, read_line
from onebase.objects import unit_in
from onebase.parts import LINE_SORTS, worth_of
from onebase.rows import reaches, suits
from onebase.taking import taken
from onebase.units import asked_in
from onebase.words import is_name


def naming(line, goal):
    """TwoStrong, TwoSorts, Missing, WrongSort, TooShort; the naming of the line."""
    return named_of(line, goal)[0]


def named_of(line, goal):
    """As naming: the pair of the naming and its members, taken apart."""
    return named_from(read_line(line, goal), goal)


def named_from(read, goal):
    """As named_of, of what read_line told of the line."""
    parts = taken(read, goal)
    cards = cards_in([item for item, _ in read])
    definers = definitions([part.unit for part in parts])
    refuse_doubles(definers)
    spares = spare_names(parts)
    refuse_missing(goal, spares, cards, definers)
    chosen = {x: chosen_of(definers[x]) for x in definers}
    if goal[0] == "program" and chosen[goal[1]][1][2] != "code":
        raise WrongSort(None, None, goal[1])
    table = table_of(chosen, spares, cards)
    worths = worths_of(table, chosen)
    refuse_uses(parts, worths)
    made = tuple([part.made for part in parts])
    wants = wants_of(goal, spares, chosen, worths)
    return ("naming", goal, made, table, wants, exports_of(goal, cards, chosen)), parts


def definitions(units):
    """By names all pairs (member, piece) that define them, in order."""
    definers = {}
    for m, unit in enumerate(units):
        for piece in unit[4]:
            if piece[3] != "own":
                definers.setdefault(piece[1], []).append((m, piece))
    return definers


def is_firm(piece):
    """Whether a piece is a strong one that is no room."""
    return piece[4] == "strong" and piece[2] != "room"


def refuse_doubles(definers):
    for x in sorted(definers):
        if len([m for m, piece in definers[x] if is_firm(piece)]) > 1:
            raise TwoStrong(x)
    for x in sorted(definers):
        if len({LINE_SORTS[piece[2]]: True for _, piece in definers[x]}) > 1:
            raise TwoSorts(x)


def refuse_missing(goal, spares, cards, definers):
    exported = {x: True for card in cards for x, _, _ in card[3]}
    missing = [x for x in spares if not spares[x] and x not in definers and x not in exported]
    if goal[0] == "program" and goal[1] not in definers and goal[1] not in missing:
        missing.append(goal[1])
    if missing:
        raise Missing(tuple(sorted(missing)))


def chosen_of(pairs):
    """Of the pairs that define a name the one with the chosen piece."""
    for pair in pairs:
        if is_firm(pair[1]):
            return pair
    rooms = [pair for pair in pairs if pair[1][2] == "room"]
    if not rooms:
        return pairs[0]
    longest = max([piece[5] for _, piece in rooms])
    return [pair for pair in rooms if pair[1][5] == longest][0]


def spare_names(parts):
    """By all names that members lead to, whether it is a spare of all of these."""
    spares = {}
    for part in parts:
        for x, spare in part.spares().items():
            spares[x] = spare and spares.get(x, True)
    return spares


def table_of(chosen, spares, cards):
    table = []
    for x in sorted({**chosen, **spares}):
        if x in chosen:
            table.append((x, ("piece", chosen[x][0])))
        else:
            sort, many = told_by_cards(x, cards)
            table.append((x, ("slot", sort, many, spares[x])))
    return tuple(table)


def told_by_cards(x, cards):
    """The sort and length that the first card tells that exports the name."""
    for card in cards:
        for name, sort, many in card[3]:
            if name == x:
                return sort, many
    return "code", 0


def worths_of(table, chosen):
    """By the names of the table the sort and length of what each leads to."""
    worths = {}
    for x, place in table:
        if place[0] == "slot":
            worths[x] = (place[1], place[2])
        else:
            worths[x] = worth_of(chosen[x][1])
    return worths


def refuse_uses(parts, worths):
    for part in parts:
        for piece, asked in zip(part.unit[4], part.asked):
            bad = [(x, word, k) for _, word, x, k in asked
                   if x not in part.own and not is_met(word, k, worths[x])]
            if bad:
                x, word, _ = min(bad)
                if not suits(word, worths[x][0]):
                    raise WrongSort(part.unit[1], piece[1], x)
                raise TooShort(part.unit[1], piece[1], x)


def is_met(word, k, worth):
    """Whether what has this sort and length is what the word asks for."""
    sort, many = worth
    return suits(word, sort) and reaches(word, k, many)


def exports_of(goal, cards, chosen):
    wanted = {x: True for card in cards for x, _, _, _ in card[4]}
    exports = []
    for x in sorted(chosen):
        piece = chosen[x][1]
        if piece[3] == "open" and (goal[0] == "library" or x in wanted):
            exports.append((x,) + worth_of(piece))
    return tuple(exports)


def wants_of(goal, spares, chosen, worths):
    wants = []
    for x in sorted(spares):
        # Another image ahead of the library may export what the library
        # shows, so its own members ask for that by slot, too.
        if x not in chosen or (goal[0] == "library" and chosen[x][1][3] == "open"):
            sort, many = worths[x]
            wants.append((x, sort, many, spares[x]))
    return tuple(wants)


def leads_to(named, m, x):
    """BadNaming, BadMember, BadName; the place to which the name of a member leads."""
    units = units_in(named)
    if units is None:
        raise BadNaming("no naming")
    _, goal, _, table, _, _ = named
    if m is None and goal[0] == "program":
        if not is_name(x) or x != goal[1]:
            raise BadName("not the entry")
        return place_in(table, x)
    if not within(m, 0, len(units) - 1):
        raise BadMember("no number of a member")
    reach = reach_in(units[m], x) if is_name(x) else None
    if reach == "own":
        return ("piece", m)
    if reach is None and (not is_name(x) or not is_asked(units[m], x)):
        raise BadName("no name of this member")
    place = place_in(table, x)
    if place[0] == "slot":
        return ("slot",)
    if goal[0] == "library" and chosen_reach(units[place[1]], x) == "open":
        return ("slot",)
    return place


def units_in(thing):
    """The members' units of any value that has the form of a naming, otherwise None."""
    if not is_tagged(thing, "naming", 6) or not is_goal(thing[1]):
        return None
    for part in thing[2:]:
        if not isinstance(part, tuple):
            return None
    units = [unit_in(made) for made in thing[2]]
    return None if None in units else units


def is_asked(unit, x):
    """Whether a piece of the unit leads to the name."""
    for held in asked_in(unit):
        for _, _, name, _ in held:
            if name == x:
                return True
    return False


def place_in(table, x):
    for name, place in table:
        if name == x:
            return place
    raise BadNaming("the table lacks a name of its members")


def reach_in(unit, x):
    """The reach of the unit's piece of this name, None if it has none."""
    for piece in unit[4]:
        if piece[1] == x:
            return piece[3]
    return None


def chosen_reach(unit, x):
    reach = reach_in(unit, x)
    if reach is None:
        raise BadNaming("the table leads to a member without the name")
    return reach
