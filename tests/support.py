"""What tests share: short ways to write values down, values near them, made-up units and lines."""

from onebase.objects import assembled


def piece(name, sort, body, reach="open", force="strong"):
    return ("piece", name, sort, reach, force, body)


def code(name, *rows, reach="open", force="strong"):
    return piece(name, "code", rows or (("return",),), reach, force)


def unit(name, *pieces, spares=(), starts=()):
    return ("unit", name, spares, starts, pieces)


def made(name, *pieces, spares=(), starts=()):
    return assembled(unit(name, *pieces, spares=spares, starts=starts))


def calls(name, *names, reach="open", force="strong"):
    """A piece of code that calls these names."""
    return code(name, *[("call", x) for x in names], ("return",), reach=reach, force=force)


def item(thing):
    return ("object", thing)


def archive(name, *things):
    return ("archive", name, things)


def card(name, needs=(), exports=(), wants=()):
    return ("card", name, needs, exports, wants)


def library(*parts, **more):
    return ("library", card(*parts, **more))


class Odd:
    """Equal to all there is, and never a key."""

    __hash__ = None

    def __eq__(self, other):
        return True

    def __len__(self):
        raise ZeroDivisionError

    def __bool__(self):
        raise ZeroDivisionError


class Sour:
    """Compared with nothing."""

    def __eq__(self, other):
        raise ZeroDivisionError

    def __lt__(self, other):
        raise ZeroDivisionError

    def __hash__(self):
        raise ZeroDivisionError


def deep(many):
    thing = ()
    for _ in range(many):
        thing = (thing,)
    return thing


WEIRD = (
    None, True, False, 0, 1, -1, 2, 63, 64, 10 ** 30, 1.0, 0.0, float("nan"), 1j, "", "a", "A", "aa",
    "unit", "open", "code", "\ud800", "\u00e4", b"", b"unit", (), (None,), (0,), ("a",), ((),), [], [0], ["a"],
    ["unit"], {}, {"a": 1}, {0: True}, set(), {0}, frozenset((0,)), range(3), Odd(), Sour(), Odd, len,
    object(), NotImplemented, Ellipsis, deep(3), deep(5000), bytearray(b"a"), lambda: 0,
)


def with_part(thing, path, part):
    if not path:
        return part
    at = path[0]
    return thing[:at] + (with_part(thing[at], path[1:], part),) + thing[at + 1:]


def paths(thing, path=()):
    """The paths to all parts of a tree of tuples, itself among them."""
    found = [path]
    if type(thing) is tuple:
        for at, part in enumerate(thing):
            found += paths(part, path + (at,))
    return found


def at_path(thing, path):
    for at in path:
        thing = thing[at]
    return thing


def other_kinds(part):
    """Values like the part, but of another kind: in no place is one of these let for it."""
    if type(part) is tuple:
        return [list(part), {"tuple": part}]
    if type(part) is bool:
        return [int(part), str(part)]
    if type(part) is int:
        return [bool(part), float(part), str(part), [part]]
    if type(part) is str:
        return [part.encode(), [part], (part,)]
    return [False, "none", [], ()]


def other_values(part):
    """Values near the part, of its kind or not: some may be let for it."""
    if type(part) is tuple:
        found = [part + (None,), part + (0,), part + ("a",), part[:-1] + ((),)]
        for at in range(len(part)):
            found.append(part[:at] + part[at + 1:])
            found.append(part[:at + 1] + part[at:])
            found.append(part[:at] + part[at + 1:at + 2] + part[at:at + 1] + part[at + 2:])
        return found
    if type(part) is int:
        return [part + 1, part - 1, -part, part + 2, 16, 17, 40, 63, 64, 65, 200, None, "", "zz"]
    if type(part) is bool:
        return [not part, None]
    if type(part) is str:
        return [
            "", "a", "zz", "f", part + "x", part[1:], part.upper(), part + " ", "abcdefghi", "open", "own",
            "hidden", "weak", "strong", "code", "data", "const", "table", "room", "cells", "goto", "jump",
            "call", "take", "pick", "load", "store", "item", "fill", "stop", "unit", None, 0, 3,
        ]
    return [0, 1, "a", "zz"]


def near(thing):
    """Pairs (value, kind): values with one part otherwise, kind whether by kinds alone."""
    for path in paths(thing):
        part = at_path(thing, path)
        for other in other_kinds(part):
            yield with_part(thing, path, other), True
        for other in other_values(part):
            yield with_part(thing, path, other), False


def weird_near(thing):
    """Values with one part exchanged for one of any kind."""
    for path in paths(thing):
        for other in WEIRD:
            yield with_part(thing, path, other)


def check_judge(test, judge, valid, things, most=None):
    """That a judge tells of values near right ones just what the plain reading tells."""
    seen = {True: 0, False: 0}
    for thing in things:
        test.assertIs(judge(thing), True, thing)
        test.assertTrue(valid(thing), thing)
        for other, by_kind in near(thing):
            told = judge(other)
            test.assertIs(told, valid(other), other)
            test.assertFalse(told and by_kind, other)
            seen[told] += 1
        for other in weird_near(thing):
            test.assertIs(judge(other), valid(other))
    for thing in WEIRD:
        test.assertIs(judge(thing), valid(thing))
    return seen


def raised(f, *told, **more):
    """What a call raises: the error's class name and its attributes; or ("told", what it tells)."""
    try:
        return ("told", f(*told, **more))
    except ValueError as e:
        return (type(e).__name__, vars(e))
