"""Traces: which rows of which pieces addresses belong to."""

from onebase.bundles import is_pair
from onebase.errors import BadImage, BadPosition
from onebase.kinds import are_different, is_number, is_tuple_of, is_word, within
from onebase.readback import is_image
from onebase.words import is_name


def body_at(image, position):
    """BadImage, BadPosition; the pair (lot, row) of the code at the position, or None."""
    if not is_image(image):
        raise BadImage("no image")
    if not within(position, 0, image[11][5] - 1):
        raise BadPosition("no position of the image")
    return body_in(image, position)


def body_in(image, position):
    """As body_at, of what is known to be right."""
    if position >= image[11][0]:
        return None
    for start, end, lot, rows in image[12]:
        if start <= position < end:
            return lot, len([row for row in rows if row <= position]) - 1
    return None


def lies_in(trace, lots):
    """Whether any values are a trace by names and one by lots, and the one lies in the other."""
    if not is_tuple_of(trace, is_frame) or not is_tuple_of(lots, is_lot_frame):
        return False
    if len(trace) != len(lots):
        return False
    for (name, unit, piece, row), (other, lot, at) in zip(trace, lots):
        if name != other or row != at or (unit, piece) not in lot:
            return False
    return True


def is_frame(thing):
    if not isinstance(thing, tuple) or len(thing) != 4:
        return False
    name, unit, piece, row = thing
    return is_image_name(name) and is_name(unit) and is_name(piece) and is_row_number(row)


def is_lot_frame(thing):
    if not isinstance(thing, tuple) or len(thing) != 3:
        return False
    name, lot, row = thing
    if not is_image_name(name) or not is_row_number(row):
        return False
    return is_tuple_of(lot, is_pair) and are_different(lot)


def is_image_name(thing):
    return is_word(thing, "") or is_name(thing)


def is_row_number(thing):
    return is_number(thing) and thing >= 0
