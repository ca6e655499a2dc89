"""From one full order to another by exchanging neighbours."""

from onebase.errors import NotFull
from onebase.kinds import are_numbers_below
from onebase.orders import is_full
from onebase.plainlines import plain_line


def swaps(line, goal, one, other):
    """The errors of needed, NotFull; where neighbours are exchanged, until one is other."""
    orders_beside(line, goal, one, other)
    now = list(one)
    found = []
    for at, n in enumerate(other):
        # What stands next in the other order comes behind those laid so far, so
        # behind more of them too: on its way there all orders are full.
        place = now.index(n)
        for here in range(place - 1, at - 1, -1):
            found.append(here)
            exchange(now, here)
    return tuple(found)


def orders_beside(line, goal, one, other):
    """The errors of needed, NotFull; the plain line of which both are full orders."""
    held = plain_line(line, goal)
    for thing in (one, other):
        if not is_full(held, thing):
            raise NotFull("no full order")
    return held


def exchange(numbers, at):
    """Exchanges, in a list, what stands at an index and behind it."""
    numbers[at:at + 2] = [numbers[at + 1], numbers[at]]


def is_swaps(line, goal, one, other, thing):
    """The errors of needed, NotFull; whether any value is such a tuple."""
    held = orders_beside(line, goal, one, other)
    if not are_numbers_below(thing, held.many - 1) or len(thing) != unlike_pairs(one, other):
        return False
    now = list(one)
    for at in thing:
        exchange(now, at)
        if not is_full(held, tuple(now)):
            return False
    return tuple(now) == other


def unlike_pairs(one, other):
    """How many pairs stand in one order in the other order than in the other."""
    place = {n: at for at, n in enumerate(other)}
    spots = [place[n] for n in one]
    return len([at for at, spot in enumerate(spots) for behind in spots[at:] if behind < spot])
