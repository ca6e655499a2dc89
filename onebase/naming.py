"""Naming: to which piece each name of a line leads."""

from onebase.asking import LINE_SORTS, led_by, own_names, wanted_by
from onebase.errors import (
    BadMember, BadName, BadNaming, Missing, TooShort, TwoSorts, TwoStrong, WrongSort,
)
from onebase.kinds import is_tagged, is_tuple_of, within
from onebase.lines import cards_in, check_line, is_goal
from onebase.objects import is_object, unit_in
from onebase.rows import length, reaches, suits
from onebase.taking import taken
from onebase.units import uses
from onebase.words import is_name


def naming(line, goal):
    """TwoStrong, TwoSorts, Missing, WrongSort, TooShort; the naming of the line."""
    check_line(line, goal)
    parts = taken(line, goal)
    units = [unit_in(made) for made in parts]
    cards = cards_in(line)
    definers = definitions(units)
    refuse_doubles(definers)
    refuse_missing(goal, units, cards, definers)
    chosen = {x: chosen_of(definers[x]) for x in definers}
    if goal[0] == "program" and chosen[goal[1]][1][2] != "code":
        raise WrongSort(None, None, goal[1])
    spares = spare_names(units)
    table = table_of(chosen, spares, cards)
    worths = worths_of(table, chosen)
    refuse_uses(units, worths)
    exports = exports_of(goal, cards, chosen)
    return ("naming", goal, parts, table, exports, wants_of(goal, spares, chosen, worths))


def definitions(units):
    """By names all pairs (member, piece) that define them, in order."""
    definers = {}
    for m, unit in enumerate(units):
        for piece in unit[4]:
            if piece[3] != "own":
                definers.setdefault(piece[1], []).append((m, piece))
    return definers


def is_firm(piece):
    """Whether a piece is a strong one that is no room."""
    return piece[4] == "strong" and piece[2] != "room"


def refuse_doubles(definers):
    for x in sorted(definers):
        if len([m for m, piece in definers[x] if is_firm(piece)]) > 1:
            raise TwoStrong(x)
    for x in sorted(definers):
        if len({LINE_SORTS[piece[2]]: True for _, piece in definers[x]}) > 1:
            raise TwoSorts(x)


def refuse_missing(goal, units, cards, definers):
    exported = {x: True for card in cards for x, _, _ in card[3]}
    missing = {}
    for unit in units:
        for x in wanted_by(unit):
            if x not in definers and x not in exported:
                missing[x] = True
    if goal[0] == "program" and goal[1] not in definers:
        missing[goal[1]] = True
    if missing:
        raise Missing(tuple(sorted(missing)))


def chosen_of(pairs):
    """Of the pairs that define a name the one with the chosen piece."""
    for pair in pairs:
        if is_firm(pair[1]):
            return pair
    rooms = [pair for pair in pairs if pair[1][2] == "room"]
    if not rooms:
        return pairs[0]
    longest = max([piece[5] for _, piece in rooms])
    return [pair for pair in rooms if pair[1][5] == longest][0]


def spare_names(units):
    """By all names that members lead to, whether it is a spare of all of these."""
    spares = {}
    for unit in units:
        for x, spare in led_by(unit):
            spares[x] = spare and spares.get(x, True)
    return spares


def table_of(chosen, spares, cards):
    table = []
    for x in sorted({**chosen, **spares}):
        if x in chosen:
            table.append((x, ("piece", chosen[x][0])))
        else:
            sort, many = told_by_cards(x, cards)
            table.append((x, ("slot", sort, many, spares[x])))
    return tuple(table)


def told_by_cards(x, cards):
    """The sort and length that the first card tells that exports the name."""
    for card in cards:
        for name, sort, many in card[3]:
            if name == x:
                return sort, many
    return "code", 0


def worths_of(table, chosen):
    """By the names of the table the sort and length of what each leads to."""
    worths = {}
    for x, place in table:
        if place[0] == "slot":
            worths[x] = (place[1], place[2])
        else:
            _, _, sort, _, _, body = chosen[x][1]
            worths[x] = (LINE_SORTS[sort], length(sort, body))
    return worths


def refuse_uses(units, worths):
    for unit in units:
        own = own_names(unit)
        for piece in unit[4]:
            for x, word, k in uses(piece):
                if x not in own:
                    refuse_use(unit[1], piece[1], x, word, k, worths[x])


def refuse_use(unit, piece, x, word, k, worth):
    sort, many = worth
    if not suits(word, sort):
        raise WrongSort(unit, piece, x)
    if not reaches(word, k, many):
        raise TooShort(unit, piece, x)


def exports_of(goal, cards, chosen):
    wanted = {x: True for card in cards for x, _, _, _ in card[4]}
    exports = []
    for x in sorted(chosen):
        _, _, sort, reach, _, body = chosen[x][1]
        if reach == "open" and (goal[0] == "library" or x in wanted):
            exports.append((x, LINE_SORTS[sort], length(sort, body)))
    return tuple(exports)


def wants_of(goal, spares, chosen, worths):
    wants = []
    for x in sorted(spares):
        # Another image ahead of the library may export what the library
        # shows, so its own members ask for that by slot, too.
        if x not in chosen or (goal[0] == "library" and chosen[x][1][3] == "open"):
            sort, many = worths[x]
            wants.append((x, sort, many, spares[x]))
    return tuple(wants)


def leads_to(named, m, x):
    """BadNaming, BadMember, BadName; the place to which the name of a member leads."""
    if not is_naming(named):
        raise BadNaming("no naming")
    _, goal, parts, table, _, _ = named
    if m is None and goal[0] == "program":
        if not is_name(x) or x != goal[1]:
            raise BadName("not the entry")
        return place_in(table, x)
    if not within(m, 0, len(parts) - 1):
        raise BadMember("no number of a member")
    unit = unit_in(parts[m])
    if not is_name(x) or x not in names_in(unit):
        raise BadName("no name of this member")
    if x in own_names(unit):
        return ("piece", m)
    place = place_in(table, x)
    if place[0] == "slot":
        return ("slot",)
    if goal[0] == "library" and reach_in(unit_in(parts[place[1]]), x) == "open":
        return ("slot",)
    return place


def is_naming(thing):
    """Whether any value has the form of a naming."""
    if not is_tagged(thing, "naming", 6) or not is_goal(thing[1]):
        return False
    return is_tuple_of(thing[2], is_object) and all(isinstance(part, tuple) for part in thing[3:])


def names_in(unit):
    """A dict of the names of the unit's pieces, and of those that they lead to."""
    names = {piece[1]: True for piece in unit[4]}
    for x, _ in led_by(unit):
        names[x] = True
    return names


def place_in(table, x):
    for name, place in table:
        if name == x:
            return place
    raise BadNaming("the table lacks a name of its members")


def reach_in(unit, x):
    for piece in unit[4]:
        if piece[1] == x:
            return piece[3]
    raise BadNaming("the table leads to a member without the name")
