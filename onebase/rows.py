"""Forms of rows and bodies, whatever stands in the place of names.

Units lead by names, webs by numbers of knots, bundles by indexes of bodies:
the form of a body is the same in all of them, so what a lead is, is passed.
"""

from onebase.kinds import is_cell, is_tuple_of, within

SORTS = ("code", "const", "table", "data", "room")

# r a register, p a place register, c and k cells, f what a fail may tell,
# n the number of a row, x a lead.
ROWS = {
    "set": "rc", "copy": "rr", "plus": "rr", "less": "rr", "ask": "r", "show": "r",
    "load": "rxk", "store": "rxk", "item": "rxr", "fill": "rxr",
    "take": "px", "pick": "pxr", "alike": "rpp",
    "call": "x", "try": "xn", "leap": "p", "jump": "x", "goto": "n", "if": "rn",
    "return": "", "stop": "", "fail": "f",
}

# At which index the rows that lead somewhere have their lead.
LEAD_SPOTS = {
    "load": 2, "store": 2, "item": 2, "fill": 2, "take": 2, "pick": 2, "call": 1, "try": 1,
    "jump": 1,
}

LAST_WORDS = ("goto", "jump", "return", "stop", "fail")

CODE_WORDS = ("call", "try", "jump", "take", "item of")

GREATEST = {"r": 3, "p": 1, "c": 63, "k": 63, "f": 62}


def is_part(thing, letter, many, is_lead):
    if letter == "x":
        return is_lead(thing)
    if letter == "n":
        return within(thing, 0, many - 1)
    return within(thing, 0, GREATEST[letter])


def is_row_word(thing):
    return isinstance(thing, str) and thing in ROWS


def has_row_form(thing, many, is_lead):
    """Whether any value is a row of code of so many rows, with such leads."""
    if not isinstance(thing, tuple) or not thing or not is_row_word(thing[0]):
        return False
    letters = ROWS[thing[0]]
    if len(thing) != 1 + len(letters):
        return False
    for part, letter in zip(thing[1:], letters):
        if not is_part(part, letter, many, is_lead):
            return False
    return True


def is_code_body(thing, is_lead):
    if not isinstance(thing, tuple) or not 1 <= len(thing) <= 40:
        return False
    if not all(has_row_form(row, len(thing), is_lead) for row in thing):
        return False
    return thing[-1][0] in LAST_WORDS


def has_body_form(sort, thing, is_lead):
    """Whether any value is a body of this sort, with such leads."""
    if sort == "code":
        return is_code_body(thing, is_lead)
    if sort == "room":
        return within(thing, 1, 64)
    if sort == "table":
        return (is_tuple_of(thing, lambda item: item is None or is_lead(item))
                and 1 <= len(thing) <= 16)
    return is_tuple_of(thing, is_cell) and 1 <= len(thing) <= 64


def length(sort, body):
    """How many items, cells or places a body has; 0 for code."""
    if sort == "code":
        return 0
    if sort == "room":
        return body
    return len(body)


def lead_spot(word):
    """At which index rows of this word have their lead, None if they have none."""
    return LEAD_SPOTS.get(word)


def lead_in(row):
    """What a row leads to, None if it leads nowhere."""
    if row[0] in LEAD_SPOTS:
        return row[LEAD_SPOTS[row[0]]]
    return None


def asks(sort, body):
    """Tuples (row or item, word, lead, k) of all that a body leads to, in order.

    k is as uses tells it: for items of tables their index.
    """
    if sort == "table":
        return [(at, "item of", item, at) for at, item in enumerate(body) if item is not None]
    if sort != "code":
        return []
    found = []
    for at, row in enumerate(body):
        word = row[0]
        if word in LEAD_SPOTS:
            k = row[3] if word in ("load", "store") else 0
            found.append((at, word, row[LEAD_SPOTS[word]], k))
    return found


def suits(word, sort):
    """Whether a piece, or what a card tells, of this sort is what the word asks for."""
    if word in CODE_WORDS:
        return sort == "code"
    if word == "pick":
        return sort == "table"
    if word in ("load", "item"):
        return sort in ("data", "const", "room", "cells")
    return sort in ("data", "room")


def reaches(word, k, many):
    """Whether the word, asking for cell k, stays within so many cells."""
    # Only load and store ask for one cell; other words tell their k for order alone.
    return word not in ("load", "store") or k < many


def is_served(word, k, sort, body):
    """Whether a body of this sort is what the word asks for, with a cell k."""
    return suits(word, sort) and reaches(word, k, length(sort, body))


def with_leads(sort, body, change):
    """The body with change(word, lead) in the place of each lead."""
    if sort == "table":
        return tuple([None if item is None else change("item of", item) for item in body])
    if sort != "code":
        return body
    return tuple([changed_row(row, change) for row in body])


def changed_row(row, change):
    at = lead_spot(row[0])
    if at is None:
        return row
    return row[:at] + (change(row[0], row[at]),) + row[at + 1:]
