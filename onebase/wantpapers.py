"""Papers of wants, which tell for each member why it became one."""

from onebase.kinds import within
from onebase.lines import read_line
from onebase.taking import taking_of


def want_paper(line, goal):
    """BadLine, BadGoal, NoLibrary; for each member None, or a name and who wants it."""
    taking = taking_of(read_line(line, goal), goal)
    return tuple([None if names is None else why_of(taking, names[0]) for names in taking.ways])


def why_of(taking, x):
    return x, None if x == taking.entry else taking.wanted[x]


def is_want_paper(line, goal, thing):
    """BadLine, BadGoal, NoLibrary; whether any value is such a paper."""
    taking = taking_of(read_line(line, goal), goal)
    if not isinstance(thing, tuple) or len(thing) != len(taking.taken):
        return False
    wants = [part.wants() for part in taking.taken]
    for at, (names, why) in enumerate(zip(taking.ways, thing)):
        if names is None:
            if why is not None:
                return False
        elif not is_why(taking.entry, names, wants[:at], why):
            return False
    return True


def is_why(entry, names, ahead, thing):
    """Whether any value tells one of these names, and that it is the entry or who ahead wants it."""
    if not isinstance(thing, tuple) or len(thing) != 2:
        return False
    x, m = thing
    if not isinstance(x, str) or x not in names:
        return False
    if m is None:
        return x == entry
    return within(m, 0, len(ahead) - 1) and x in ahead[m]
