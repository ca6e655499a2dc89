"""Editions: which card may stand in the place of another one of its name."""

from onebase.errors import BadCard, BadImage, BadShelf, NoFit, OtherName
from onebase.kinds import is_tagged, is_tuple_of, is_word
from onebase.lines import are_exports, are_needs, are_wants, is_card
from onebase.loading import bound_images, bound_in, card_in, refused_in, scope, walk_of
from onebase.readback import is_image

# How many libraries a card needs at most that editions are asked of.
MOST_NEEDS = 3


def is_shelf(thing):
    """Whether any value is a shelf, let or not."""
    if not isinstance(thing, tuple) or not thing or not is_program_card(thing[0]):
        return False
    needs = thing[0][2]
    if not is_tuple_of(thing[1:], is_card) or tuple([card[1] for card in thing[1:]]) != needs:
        return False
    for card in thing[1:]:
        if not all(x in needs for x in card[2]):
            return False
    return True


def is_program_card(thing):
    """Whether any value is as a card, but with the name of a program."""
    if not is_tagged(thing, "card", 5):
        return False
    _, name, needs, exports, wants = thing
    return is_word(name, "") and are_needs(needs, name) and are_exports(exports) and are_wants(wants)


def check_shelf(shelf):
    if not is_shelf(shelf):
        raise BadShelf("no shelf")


def shelf_bound(shelf):
    """BadShelf, NotLet; for each card, for each of its wants, an index or None."""
    check_shelf(shelf)
    return bound_in(shelf)


def shelf_begins(shelf):
    """BadShelf; the indexes of the cards in the order in which they begin."""
    check_shelf(shelf)
    return tuple(walk_of(shelf))


def fits(shelf, card):
    """BadShelf, BadCard, NotLet; whether the card may stand in the place of that of its name."""
    check_shelf(shelf)
    if not is_card(card) or card[1] not in shelf[0][2]:
        raise BadCard("no card of a library of the shelf")
    return fits_into(shelf, bound_in(shelf), card)


def fits_into(shelf, bound, card):
    """As fits, of a shelf that is let, and what is bound there."""
    at = place_of(shelf, card[1])
    other = exchanged_in(shelf, at, card)
    if not is_shelf(other) or refused_in(other) is not None:
        return False
    if walk_of(shelf) != walk_of(other):
        return False
    behind = bound_in(other)
    if behind[:at] + behind[at + 1:] != bound[:at] + bound[at + 1:]:
        return False
    aims = {want[0]: index for want, index in zip(shelf[at][4], bound[at])}
    for want, index in zip(card[4], behind[at]):
        if want[0] in aims and aims[want[0]] != index:
            return False
    return True


def place_of(shelf, name):
    """The index of the library of this name; of a shelf's cards, or of images."""
    return [thing[1] for thing in shelf].index(name)


def exchanged_in(things, at, thing):
    return things[:at] + (thing,) + things[at + 1:]


def is_edition(thing):
    """Whether any value is a card of which editions are asked."""
    if not is_card(thing) or len(thing[2]) > MOST_NEEDS:
        return False
    exports = {x: (sort, many) for x, sort, many in thing[3]}
    for x, sort, many, _ in thing[4]:
        if exports.get(x, (sort, many)) != (sort, many):
            return False
    return True


def check_editions(old, new):
    """BadCard, OtherName: what is raised ahead of all else for two editions."""
    for card in (old, new):
        if not is_edition(card):
            raise BadCard("no card of which editions are asked")
    if old[1] != new[1]:
        raise OtherName("two names")


def may_replace(old, new):
    """BadCard, OtherName; whether new fits into each shelf that has old and is let."""
    check_editions(old, new)
    if old[2] != new[2] or old[3] != new[3]:
        return False
    exported = {x: True for x, _, _ in old[3]}
    wanted = {want[0]: want for want in old[4]}
    for x, sort, many, spare in new[4]:
        if x not in wanted or wanted[x][1:3] != (sort, many):
            return False
        if not spare and wanted[x][3] and x not in exported:
            return False
    return True


def is_apart(old, new, thing):
    """BadCard, OtherName; whether any value is a shelf that shows that new may not replace old."""
    check_editions(old, new)
    return shows_apart(old, new, thing)


def shows_apart(old, new, thing):
    if not is_shelf(thing) or old not in thing[1:] or refused_in(thing) is not None:
        return False
    return not fits_into(thing, bound_in(thing), new)


def apart(old, new):
    """BadCard, OtherName; a shelf of as few cards as can be into which new does not fit, or None."""
    check_editions(old, new)
    for shelf in shelves_apart(old, new):
        if shows_apart(old, new, shelf):
            return shelf
    return None


def shelves_apart(old, new):
    """Shelves of which one shows that new may not replace old, if any does; the short ones first.

    In most the program exports all that old wants: so old is let, and what
    new wants otherwise is refused.
    """
    exports = {x: (sort, many) for x, sort, many in old[3]}
    shown = {x: (sort, many) for x, sort, many in new[3]}
    wants = {x: (sort, many, spare) for x, sort, many, spare in old[4]}
    found = [shelf_around(old, {}, None)]
    longer = []
    for x in exports:
        if shown.get(x) != exports[x]:
            found.append(shelf_around(old, {x: None}, (x,) + exports[x] + (False,)))
    for x in shown:
        if x not in exports:
            if x not in wants or wants[x][2]:
                found.append(shelf_around(old, {x: None}, (x,) + shown[x] + (True,)))
            else:
                longer.append(shelf_behind(old, (x,) + wants[x][:2]))
    for x, sort, _, spare in new[4]:
        if x not in wants:
            found.append(shelf_around(old, {x: ("code", 0) if sort != "code" else ("data", 1)}, None))
        elif not spare and wants[x][2]:
            found.append(shelf_around(old, {x: None}, None))
    return found + longer


def shelf_around(old, others, want):
    """A program that exports what old wants, but for others, and has one want or none."""
    worths = {x: (sort, many) for x, sort, many, _ in old[4]}
    for x, worth in others.items():
        worths[x] = worth
    exports = [(x,) + worths[x] for x in sorted(worths) if worths[x] is not None]
    card = ("card", "", (old[1],) + old[2], tuple(exports), () if want is None else (want,))
    return (card, old) + tuple([("card", x, (), (), ()) for x in old[2]])


def shelf_behind(old, export):
    """A program that wants a name which a library behind old exports."""
    x, sort, many = export
    names = old[2] or ("b" if old[1] == "a" else "a",)
    program = shelf_around(old, {x: None}, (x, sort, many, True))[0]
    card = ("card", "", (old[1],) + names, program[3], program[4])
    libraries = [("card", name, (), (), ()) for name in names[1:]]
    return (card, old, ("card", names[0], (), (export,), ()), *libraries)


def exchanged(program, libraries, image):
    """The errors of bindings, BadImage, NoFit; the scope with the image in the place of its name's."""
    images = scope(program, libraries)
    bound_images(images)
    if not is_image(image) or image[1] not in program[3]:
        raise BadImage("no image of a library of the scope")
    shelf = tuple([card_in(part) for part in images])
    if not fits_into(shelf, bound_in(shelf), card_in(image)):
        raise NoFit("its card does not fit")
    return exchanged_in(images, place_of(images, image[1]), image)
