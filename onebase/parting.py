"""Which kept knots are alike."""

from onebase.keeping import kept_in
from onebase.kinds import are_numbers_below, is_number, is_rising, is_tuple_of
from onebase.rows import lead_in, lead_spot
from onebase.webs import check_knot, check_web


def step_of(web, knot, row):
    """The knot to which a row steps, None if it makes no step."""
    if row[0] == "goto":
        return knot
    lead = lead_in(row)
    if not is_number(lead):
        return None
    if row[0] in ("call", "try", "jump", "pick"):
        return lead
    # Of data it matters which one is read; of consts only what they hold.
    if row[0] in ("load", "item") and web[3][lead][2] == "const":
        return lead
    return None


def steps_of(web, knot):
    """The knots to which the rows of a knot step, in order."""
    _, _, sort, body = web[3][knot]
    if sort != "code":
        return []
    steps = [step_of(web, knot, row) for row in body]
    return [step for step in steps if step is not None]


def front(web, knot):
    """BadWeb, BadKnot; what is seen of the knot itself."""
    check_knot(web, knot)
    return front_in(web, knot)


def front_in(web, knot):
    """As front, of a web and knot that are known to be right."""
    _, _, sort, body = web[3][knot]
    if sort in ("data", "room"):
        return (sort, knot)
    if sort != "code":
        return (sort, body)
    return (sort, tuple([front_row(row, step_of(web, knot, row)) for row in body]))


def front_row(row, step):
    if step is None:
        return row
    if row[0] == "goto":
        return ("goto", "", row[1])
    if row[0] == "jump":
        # A jump ends where a goto 0 of the knot led to would: both are alike.
        return ("goto", "", 0)
    at = lead_spot(row[0])
    return row[:at] + ("",) + row[at + 1:]


def is_even(web, thing):
    """BadWeb; whether any value is an even parting."""
    check_web(web)
    return is_even_in(web, thing)


def is_even_in(web, thing):
    """As is_even, of a web that is known to be right."""
    many = len(web[3])
    if not is_tuple_of(thing, lambda lot: are_numbers_below(lot, many)):
        return False
    if not all(lot and is_rising(lot) for lot in thing):
        return False
    if sorted([knot for lot in thing for knot in lot]) != list(kept_in(web)):
        return False
    number = numbers_of(thing)
    return all(is_even_lot(web, lot, number) for lot in thing)


def numbers_of(lots):
    """By knots the number of the lot in which each stands."""
    return {knot: at for at, lot in enumerate(lots) for knot in lot}


def is_even_lot(web, lot, number):
    seen = [sign_of(web, knot, number) for knot in lot]
    return all(sign == seen[0] for sign in seen)


def sign_of(web, knot, number):
    """What two knots of a lot have to share: the front, and the lots of their steps."""
    return front_in(web, knot), [number[step] for step in steps_of(web, knot)]


def classes(web):
    """BadWeb; the even parting with the fewest lots, lots ascending."""
    check_web(web)
    return classes_in(web)


def classes_in(web):
    """As classes, of a web that is known to be right."""
    return lots_of(rounds_in(web)[-1])


def rounds_in(web):
    """Round by round, by kept knots, numbers that are equal for those not yet told apart."""
    knots = kept_in(web)
    fronts = numbered({knot: front_in(web, knot) for knot in knots})
    steps = {knot: steps_of(web, knot) for knot in knots}
    rounds = [fronts]
    many = 0
    while many < count_of(rounds[-1]):
        number = rounds[-1]
        many = count_of(number)
        rounds.append(numbered({
            knot: (fronts[knot], tuple([number[step] for step in steps[knot]])) for knot in knots
        }))
    return rounds


def lots_of(number):
    """The ascending lots of the knots with equal numbers; knots are keys in ascending order."""
    lots = {}
    for knot in number:
        lots.setdefault(number[knot], []).append(knot)
    return tuple(sorted([tuple(lot) for lot in list(lots.values())]))


def numbered(signs):
    """By the keys of a dict numbers, equal ones exactly for equal signs."""
    numbers = {}
    for key in signs:
        numbers.setdefault(signs[key], len(numbers))
    return {key: numbers[signs[key]] for key in signs}


def count_of(number):
    return len({number[knot]: True for knot in number})
