"""Names, and the words that are kept from being names."""

KEPT = (
    "alike", "archive", "ask", "call", "code", "const", "copy", "data", "fail", "fill",
    "goto", "hidden", "if", "item", "jump", "leap", "less", "library", "line", "load",
    "none", "open", "over", "own", "pick", "plus", "program", "return", "room", "round",
    "set", "show", "spare", "start", "stop", "store", "table", "take", "try", "unit",
    "weak",
)


# The same words once more: whether a word is kept is asked of each name of a program.
BARRED = {
    "alike": True, "archive": True, "ask": True, "call": True, "code": True, "const": True,
    "copy": True, "data": True, "fail": True, "fill": True, "goto": True, "hidden": True,
    "if": True, "item": True, "jump": True, "leap": True, "less": True, "library": True,
    "line": True, "load": True, "none": True, "open": True, "over": True, "own": True,
    "pick": True, "plus": True, "program": True, "return": True, "room": True, "round": True,
    "set": True, "show": True, "spare": True, "start": True, "stop": True, "store": True,
    "table": True, "take": True, "try": True, "unit": True, "weak": True,
}


def is_name(thing):
    """Whether any value is a name: 1 to 8 letters a to z, no kept word."""
    return (isinstance(thing, str) and 1 <= len(thing) <= 8 and thing.isalpha()
            and thing.islower() and thing.isascii() and thing not in BARRED)
