"""Orders of the items of plain lines in which all that is needed becomes a member."""

from onebase.errors import BadItem, Knotted
from onebase.kinds import are_different, are_numbers_below, is_rising, is_word, within
from onebase.plainlines import plain_line


def order(line, goal):
    """The errors of needed; ("order", the least full order), or ("knot", a knot)."""
    held = plain_line(line, goal)
    found = laid(held, ())
    if len(found) == held.many:
        return ("order", found)
    return ("knot", tuple([n for n in range(held.many) if n not in found]))


def laid(held, first, barred=None):
    """Items behind the first ones, each time the least that comes, as long as any does.

    barred is the number of an item that is not laid.
    """
    found = list(first)
    left = [n for n in range(held.many) if n not in found and n != barred]
    here = next_of(held, found, left)
    while here is not None:
        found.append(here)
        left.remove(here)
        here = next_of(held, found, left)
    return tuple(found)


def next_of(held, found, left):
    """The first of the items left that comes behind those found, None if none does."""
    lot = held.lot_of(found)
    for n in left:
        if held.comes(n, lot):
            return n
    return None


def is_order(line, goal, thing):
    """The errors of needed; whether any value is ("order", a full order) or ("knot", a knot)."""
    held = plain_line(line, goal)
    if not isinstance(thing, tuple) or len(thing) != 2:
        return False
    word, numbers = thing
    if is_word(word, "order"):
        return is_full(held, numbers)
    return is_word(word, "knot") and is_knot(held, numbers)


def is_full(held, thing):
    """Whether any value is a full order of the plain line."""
    if not are_numbers_below(thing, held.many):
        return False
    if len(thing) != held.many or not are_different(thing):
        return False
    return all(held.comes(n, held.lot_of(thing[:at])) for at, n in enumerate(thing))


def is_knot(held, thing):
    """Whether any value is a knot of the plain line."""
    if not are_numbers_below(thing, held.many) or not thing or not is_rising(thing):
        return False
    lot = held.lot_of([n for n in range(held.many) if n not in thing])
    return not any(held.comes(n, lot) for n in thing)


def order_with(line, goal, first, second):
    """The errors of needed, Knotted, BadItem; a full order with the first item ahead, or None."""
    held = plain_line(line, goal)
    if len(laid(held, ())) < held.many:
        raise Knotted("no order is full")
    for n in (first, second):
        if not within(n, 0, held.many - 1):
            raise BadItem("no number of an item")
    if first == second:
        raise BadItem("one item twice")
    found = laid(held, (), second)
    # What comes behind a lot comes behind each greater one: so with all laid
    # that comes without the second, the first is not to be had without it.
    if first not in found:
        return None
    return laid(held, found)
