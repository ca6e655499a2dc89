"""What kind a value is: numbers, cells, words, tagged and ascending tuples.

Callers may pass values of any kind; so a kind is asked ahead of each
comparison, and nothing is compared, ordered or used as a key before.
"""


def is_number(thing):
    # For Python True and False are integers; for the program they are none.
    return isinstance(thing, int) and not isinstance(thing, bool)


def within(thing, low, high):
    return is_number(thing) and low <= thing <= high


def is_cell(thing):
    return within(thing, 0, 63)


def are_cells(thing):
    """Whether a value is a tuple or list of cells."""
    return isinstance(thing, (tuple, list)) and all(is_cell(cell) for cell in thing)


def is_word(thing, word):
    return isinstance(thing, str) and thing == word


def is_one_of(thing, words):
    return isinstance(thing, str) and thing in words


def is_tagged(thing, word, many):
    """Whether a value is a tuple of so many items with the word ahead."""
    return isinstance(thing, tuple) and len(thing) == many and is_word(thing[0], word)


def is_tuple_of(thing, is_part):
    return isinstance(thing, tuple) and all(is_part(part) for part in thing)


def are_numbers_below(thing, many):
    """Whether any value is a tuple of numbers from 0 on, below so many."""
    return is_tuple_of(thing, lambda part: within(part, 0, many - 1))


def is_rising(things):
    """Whether each of these things, of one kind, is less than the next one."""
    return all(things[at] < things[at + 1] for at in range(len(things) - 1))


def are_different(things):
    return len({thing: True for thing in things}) == len(things)


def same(told, thing):
    """Whether any value is just the told tree of tuples, words, numbers, None.

    Plain equality would take True for 1.
    """
    if isinstance(told, tuple):
        if not isinstance(thing, tuple) or len(thing) != len(told):
            return False
        return all(same(part, other) for part, other in zip(told, thing))
    if isinstance(told, str):
        return is_word(thing, told)
    if told is None:
        return thing is None
    return is_number(thing) and thing == told
