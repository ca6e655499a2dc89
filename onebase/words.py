"""Names, and the words that are kept from being names."""

KEPT = (
    "alike", "archive", "ask", "call", "code", "const", "copy", "data", "fail", "fill",
    "goto", "hidden", "if", "item", "jump", "leap", "less", "library", "line", "load",
    "none", "open", "over", "own", "pick", "plus", "program", "return", "room", "round",
    "set", "show", "spare", "start", "stop", "store", "table", "take", "try", "unit",
    "weak",
)


def is_name(thing):
    """Whether any value is a name: 1 to 8 letters a to z, no kept word."""
    if not isinstance(thing, str) or not 1 <= len(thing) <= 8 or thing in KEPT:
        return False
    return all("a" <= letter <= "z" for letter in thing)
