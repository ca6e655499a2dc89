"""Images: bundles laid out as rows of cells."""

from onebase.bundles import bundle_of
from onebase.codes import instruction
from onebase.errors import Far, TooGreat
from onebase.kinds import is_number
from onebase.parts import LINE_SORTS
from onebase.rows import asks, lead_in, length
from onebase.widths import Layout, is_branching, laid_word, layout_of, waves_from

MOST_CELLS = 2000

# The sorts in the order in which an image has them.
IMAGE_PARTS = ("code", "const", "table", "slot", "data", "room")

# By the words of instructions that aim: at which indexes of the row their
# registers and numbers stand. Behind these are the length and the distance.
TOLD_SPOTS = {
    "load": (1,), "store": (1,), "item": (1, 3), "fill": (1, 3), "take": (1,), "pick": (1, 3),
    "call": (), "jump": (), "if": (1,), "by load": (1, 3), "by store": (1, 3),
    "by item": (1, 3), "by fill": (1, 3), "by take": (1,), "by pick": (1, 3), "by call": (),
    "by jump": (),
}

# Rows of these words tell in their instructions the length of what they lead to.
LONG_WORDS = ("item", "fill", "pick")

# A slot of this image that only rows of these words read is bound late.
LATE_WORDS = ("call", "try", "jump")


def image_with(bundle, long):
    """BadBundle, BadLot, Far, TooGreat; the image in which just long is long."""
    layout = layout_of(bundle)
    flags = layout.flags_of(long)
    wide = layout.far(flags)
    if wide:
        raise Far(layout.lot[wide[0]])
    return image_from(bundle, layout, flags)


def image_of(bundle):
    """BadBundle, TooGreat; the image in which no more is long than must be."""
    return least_image(bundle, layout_of(bundle))


def linked(line, goal):
    """The errors of bundle_of, TooGreat; the image of the line's bundle."""
    bundle = bundle_of(line, goal)
    return least_image(bundle, Layout(bundle))


def least_image(bundle, layout):
    flags = layout.flags_of(())
    waves_from(layout, flags)
    return image_from(bundle, layout, flags)


def image_from(bundle, layout, flags):
    """TooGreat; as image_with, of what is known to be right."""
    placing = Placing(bundle, layout, flags)
    if placing.ends[5] > MOST_CELLS:
        raise TooGreat(placing.ends[5])
    _, name, entry, needs, wants, starts, exports, parts = bundle
    shown = []
    for x, index in exports:
        _, sort, _, body = parts[index]
        shown.append((x, LINE_SORTS[sort], placing.starts[index], length(sort, body)))
    return (
        "image", name, None if entry is None else placing.starts[entry], needs, wants,
        tuple([placing.starts[start] for start in starts]), tuple(shown), placing.slots,
        placing.fills(), placing.tries(), placing.cells(), placing.ends, placing.book())


def cells_of(sort, body):
    """How many cells a body that is no code takes."""
    return 2 * len(body) if sort == "table" else length(sort, body)


class Placing:
    """Where all of a bundle stands if just the branches with a flag are long."""

    def __init__(self, bundle, layout, flags):
        self.parts = bundle[7]
        self.many = {x: many for x, _, many, _ in bundle[4]}
        self.rows = layout.places(flags)
        self.starts = [rows[0] for rows in self.rows]
        at = self.rows[-1][-1] if self.rows else 0
        ends = [at]
        for sort in IMAGE_PARTS[1:]:
            if sort == "slot":
                self.slots = slots_from(self.parts, at)
                at += 2 * len(self.slots)
            for part in self.parts:
                if part[1] == sort:
                    self.starts.append(at)
                    at += cells_of(sort, part[3])
            ends.append(at)
        self.ends = tuple(ends)
        self.slot = {x: spot for spot, x, _ in self.slots}

    def end(self, b):
        """Where the body ends."""
        _, sort, _, body = self.parts[b]
        if sort == "code":
            return self.rows[b][-1]
        return self.starts[b] + cells_of(sort, body)

    def cells(self):
        found = []
        for b, (_, sort, _, body) in enumerate(self.parts):
            # Between tables and data stand the slots, for which there is no body.
            found.extend([0] * (min(self.starts[b], self.ends[4]) - len(found)))
            if sort == "code":
                for n, row in enumerate(body):
                    found.extend(self.laid(b, n, row))
            elif sort in ("const", "data"):
                found.extend(body)
        found.extend([0] * (self.ends[4] - len(found)))
        return tuple(found)

    def laid(self, b, n, row):
        """The instruction of a row."""
        behind = self.rows[b][n + 1]
        many = behind - self.rows[b][n]
        lead = lead_in(row)
        if lead is None and not is_branching(row):
            return instruction(row, many)
        word = laid_word(row)
        parts = [row[spot] for spot in TOLD_SPOTS[word]]
        if row[0] in LONG_WORDS:
            parts.append(self.length(lead))
        return instruction((word, *parts, self.aim(b, row) - behind), many)

    def length(self, lead):
        if is_number(lead):
            _, sort, _, body = self.parts[lead]
            return length(sort, body)
        return self.many[lead]

    def aim(self, b, row):
        """The position at which a row aims."""
        if row[0] in ("goto", "if"):
            return self.rows[b][row[-1]]
        lead = lead_in(row)
        if not is_number(lead):
            return self.slot[lead]
        return self.starts[lead] + (row[3] if row[0] in ("load", "store") else 0)

    def fills(self):
        found = []
        for b, (_, sort, _, body) in enumerate(self.parts):
            for at, _, lead, _ in asks(sort, body) if sort == "table" else []:
                aim = self.starts[lead] if is_number(lead) else lead
                found.append((self.starts[b] + 2 * at, aim))
        return tuple(found)

    def tries(self):
        found = []
        for b, rows in enumerate(self.rows):
            for n, row in enumerate(self.parts[b][3]):
                if row[0] == "try":
                    found.append((rows[n + 1], rows[row[2]]))
        return tuple(found)

    def book(self):
        found = []
        for b, (_, sort, lot, _) in enumerate(self.parts):
            rows = tuple(self.rows[b][:-1]) if sort == "code" else ()
            found.append((self.starts[b], self.end(b), lot, rows))
        return tuple(found)


def slots_from(parts, at):
    """The slots, the first at the position, for the names to which rows lead."""
    late = {}
    for _, sort, _, body in parts:
        for _, word, lead, _ in asks(sort, body) if sort == "code" else []:
            if not is_number(lead):
                late[lead] = word in LATE_WORDS and late.get(lead, True)
    return tuple([(at + 2 * n, x, late[x]) for n, x in enumerate(sorted(late))])
