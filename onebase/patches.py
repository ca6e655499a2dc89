"""Patches, which make one row of cells of another, and rifts, which show that none is shorter."""

from onebase.errors import BadPatch, BadRun
from onebase.kinds import are_cells, is_cell, is_number, is_tagged, is_tuple_of, within

# A sign for each cell: rows of cells are sought in others as texts.
SIGNS = "ABCDEFGHIJKLMNOPQRSTUVWXYZabcdefghijklmnopqrstuvwxyz0123456789+-"


def text_of(run):
    """BadRun; the run as a text, a sign for each cell."""
    if not are_cells(run):
        raise BadRun("no run of cells")
    return "".join([SIGNS[cell] for cell in run])


def patch(old, new):
    """BadRun; a patch of as few steps as can be that makes new of old."""
    whole, sought = text_of(old), text_of(new)
    steps = []
    for start, end in parts_of(whole, sought):
        at = whole.find(sought[start:end])
        steps.append(("cell", new[start]) if at < 0 else ("copy", at, end - start))
    return tuple(steps)


def parts_of(whole, sought):
    """Pairs (start, end), one behind another: each time as much as stands in the whole, or one sign."""
    found = []
    start = 0
    while start < len(sought):
        end = start + max(1, longest(whole, sought, start))
        found.append((start, end))
        start = end
    return found


def longest(whole, sought, start):
    """How many signs from the start on stand in the whole, one behind another, at most."""
    good = 0
    more = 1
    while stands(whole, sought, start, good + more):
        good += more
        more = 2 * more
    while more > 1:
        more = more // 2
        if stands(whole, sought, start, good + more):
            good += more
    return good


def stands(whole, sought, start, many):
    """Whether there are so many signs from the start on, and stand in the whole."""
    return start + many <= len(sought) and sought[start:start + many] in whole


def patched(old, patch):
    """BadRun, BadPatch; what the steps of the patch give, one behind another."""
    if not are_cells(old):
        raise BadRun("no run of cells")
    if not is_tuple_of(patch, lambda step: is_step(step, len(old))):
        raise BadPatch("no patch of this run")
    found = []
    for step in patch:
        if step[0] == "cell":
            found.append(step[1])
        else:
            found.extend(old[step[1]:step[1] + step[2]])
    return tuple(found)


def is_step(thing, many):
    """Whether any value is a step of a patch of a run of so many cells."""
    if is_tagged(thing, "cell", 2):
        return is_cell(thing[1])
    if not is_tagged(thing, "copy", 3):
        return False
    return within(thing[1], 0, many) and within(thing[2], 1, many - thing[1])


def rifts(old, new):
    """BadRun; as many rifts as can be, none over the end of another."""
    whole, sought = text_of(old), text_of(new)
    starts = [start for start, _ in parts_of(whole, sought)]
    return tuple([(starts[at], starts[at + 1]) for at in range(len(starts) - 1)])


def is_rifts(old, new, thing):
    """BadRun; whether any value is a tuple of rifts, each next one behind the one ahead."""
    whole, sought = text_of(old), text_of(new)
    if not is_tuple_of(thing, lambda rift: is_pair_below(rift, len(sought))):
        return False
    for at, (i, j) in enumerate(thing):
        if at > 0 and i < thing[at - 1][1]:
            return False
        if sought[i:j + 1] in whole:
            return False
    return True


def is_pair_below(thing, many):
    """Whether any value is a pair of numbers from 0 on, below so many, the first the less."""
    if not isinstance(thing, tuple) or len(thing) != 2 or not is_number(thing[1]):
        return False
    return within(thing[0], 0, thing[1] - 1) and thing[1] < many
