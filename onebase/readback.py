"""Images read back: the bundle of which an image is, and what is long in it."""

from onebase.bundles import is_bundle, is_pair
from onebase.codes import sense_in
from onebase.errors import BadImage, NotLinked
from onebase.images import LONG_WORDS, MOST_CELLS, image_from
from onebase.kinds import (
    are_cells, are_different, is_number, is_rising, is_tagged, is_tuple_of, is_word, within,
)
from onebase.lines import are_needs, are_wants, is_told_piece
from onebase.objects import PLAIN
from onebase.widths import Layout
from onebase.words import is_name

# The codes of long branches.
LONG_CODES = (15, 17, 19)


def is_image(thing):
    """Whether any value has the form of an image."""
    if not is_tagged(thing, "image", 13):
        return False
    _, name, entry, needs, wants, starts, exports, slots, fills, tries, cells, ends, book = thing
    if not is_word(name, "") and not is_name(name):
        return False
    if not are_needs(needs, name) or not are_wants(wants):
        return False
    if not isinstance(cells, tuple) or not are_cells(cells) or not are_ends(ends, len(cells)):
        return False
    if entry is None and name == "" or entry is not None and name != "":
        return False
    if entry is not None and not within(entry, 0, ends[0] - 1):
        return False
    if not is_tuple_of(starts, lambda start: within(start, 0, ends[0] - 1)):
        return False
    wanted = {want[0]: True for want in wants}
    return (are_exports(exports, ends[5]) and are_slots(slots, wanted, ends)
            and are_fills(fills, wanted, ends) and are_tries(tries, ends[0])
            and is_book(book, ends))


def are_ends(thing, many):
    """Whether any value tells the ends of the parts of an image of so many cells."""
    if not is_tuple_of(thing, lambda end: within(end, 0, MOST_CELLS)) or len(thing) != 6:
        return False
    return thing[4] == many and all(thing[at] <= thing[at + 1] for at in range(5))


def are_exports(thing, end):
    if not is_tuple_of(thing, lambda part: is_export(part, end)):
        return False
    return is_rising([part[0] for part in thing])


def is_export(thing, end):
    if not isinstance(thing, tuple) or len(thing) != 4:
        return False
    x, sort, position, many = thing
    return is_told_piece(x, sort, many) and within(position, 0, end - 1)


def are_slots(thing, wanted, ends):
    if not isinstance(thing, tuple) or 2 * len(thing) != ends[3] - ends[2]:
        return False
    for at, slot in enumerate(thing):
        if not isinstance(slot, tuple) or len(slot) != 3:
            return False
        position, x, late = slot
        here = ends[2] + 2 * at
        if not within(position, here, here) or not is_name(x) or x not in wanted:
            return False
        if late is not True and late is not False:
            return False
    return is_rising([x for _, x, _ in thing])


def are_fills(thing, wanted, ends):
    if not is_tuple_of(thing, lambda fill: is_fill(fill, wanted, ends)):
        return False
    return is_rising([position for position, _ in thing])


def is_fill(thing, wanted, ends):
    if not isinstance(thing, tuple) or len(thing) != 2:
        return False
    position, lead = thing
    if not within(position, ends[1], ends[2] - 1) or (position - ends[1]) % 2 != 0:
        return False
    if is_number(lead):
        return 0 <= lead < ends[0]
    return is_name(lead) and lead in wanted


def are_tries(thing, end):
    if not is_tuple_of(thing, lambda pair: is_try(pair, end)):
        return False
    return is_rising([position for position, _ in thing])


def is_try(thing, end):
    return is_tuple_of(thing, lambda position: within(position, 0, end)) and len(thing) == 2


def is_book(thing, ends):
    """Whether any value tells, one behind another, what stands in such parts."""
    if not is_tuple_of(thing, lambda entry: isinstance(entry, tuple) and len(entry) == 4):
        return False
    at = 0
    for start, end, lot, rows in thing:
        # Behind the tables come the slots, of which the book tells nothing.
        if at == ends[2]:
            at = ends[3]
        if not within(start, at, at) or not within(end, at + 1, room_end(at, ends)):
            return False
        if not is_tuple_of(lot, is_pair) or not lot or not are_different(lot):
            return False
        if at < ends[0]:
            if not are_row_starts(rows, start, end):
                return False
        elif not isinstance(rows, tuple) or rows:
            return False
        at = end
    if at == ends[2]:
        at = ends[3]
    return at == ends[5]


def room_end(at, ends):
    """Up to where a body that begins at the position may go."""
    if at < ends[0]:
        return ends[0]
    if at < ends[2]:
        return ends[2]
    return ends[5]


def are_row_starts(thing, start, end):
    if not is_tuple_of(thing, lambda row: within(row, start, end - 1)) or not thing:
        return False
    return thing[0] == start and is_rising(thing)


def read_back(image):
    """BadImage, NotLinked; the bundle of which the image is."""
    return read_image(image)[0]


def long_in(image):
    """BadImage, NotLinked; the lot that is long in the image."""
    return read_image(image)[1]


def read_image(image):
    """BadImage, NotLinked; the pair of the bundle and of what is long."""
    if not is_image(image):
        raise BadImage("no image")
    told = told_by(image)
    if told is None:
        raise NotLinked("no image of a bundle")
    return told


def told_by(image):
    """As read_image, of an image that is known to be right; None if it is of no bundle."""
    bundle, long = Reading(image).told()
    if bundle is None or not is_bundle(bundle):
        return None
    layout = Layout(bundle)
    flags = layout.flags_of(long)
    # What was read may tell less than the image does: it counts only if laying
    # it out gives the very image again.
    if layout.far(flags) or image_from(bundle, layout, flags) != image:
        return None
    return bundle, long


class Reading:
    """What the parts of an image tell of its bundle, as far as they tell anything."""

    def __init__(self, image):
        self.image = image
        self.cells = image[10]
        self.ends = image[11]
        self.book = image[12]
        self.slot = {position: x for position, x, _ in image[7]}
        self.fill = {position: lead for position, lead in image[8]}
        self.aim = {position: aim for position, aim in image[9]}
        self.index = {entry[0]: b for b, entry in enumerate(self.book)}
        self.long = []

    def told(self):
        """The bundle, None if there surely is none, and the lot that is long."""
        _, name, entry, needs, wants, starts, exports, _, _, _, _, _, book = self.image
        parts = []
        for b, (_, _, lot, _) in enumerate(book):
            sort = self.sort_of(b)
            body = self.body(sort, b)
            if body is None:
                return None, ()
            parts.append(("body", sort, lot, body))
        # A position at which no body starts gives None, which is no index of one.
        shown = tuple([(x, self.index.get(position)) for x, _, position, _ in exports])
        begin = tuple([self.index.get(position) for position in starts])
        first = None if entry is None else self.index.get(entry)
        if name == "" and first is None:
            return None, ()
        bundle = ("bundle", name, first, needs, wants, begin, shown, tuple(parts))
        return bundle, tuple(self.long)

    def sort_of(self, b):
        start = self.book[b][0]
        for sort, end in zip(("code", "const", "table"), self.ends):
            if start < end:
                return sort
        return "data" if start < self.ends[4] else "room"

    def body(self, sort, b):
        start, end, _, rows = self.book[b]
        if sort == "room":
            return end - start
        if sort == "table":
            return tuple([self.item(start + 2 * at) for at in range((end - start) // 2)])
        if sort != "code":
            return self.cells[start:end]
        found = []
        for n, at in enumerate(rows):
            row = self.row(b, at, rows[n + 1] if n + 1 < len(rows) else end)
            if row is None:
                return None
            if self.cells[at] in LONG_CODES:
                self.long.append((b, n))
            found.append(row)
        return tuple(found)

    def item(self, position):
        lead = self.fill.get(position)
        return self.index.get(lead) if is_number(lead) else lead

    def row(self, b, at, behind):
        """The row between two positions, None if there is none."""
        here = sense_in(self.cells, at)
        if here is None or at + here[1] != behind:
            return None
        sense = here[0]
        if sense[0] in PLAIN:
            return sense
        aim = behind + sense[-1]
        if sense[0] in ("if", "jump") and aim in self.book[b][3]:
            n = self.book[b][3].index(aim)
            return ("goto", n) if sense[0] == "jump" else ("if", sense[1], n)
        if sense[0] == "if":
            return None
        lead, k = self.lead(sense, aim)
        if lead is None:
            return None
        word = sense[0].removeprefix("by ")
        if word == "call":
            return self.call(b, lead, behind)
        if word in ("load", "store"):
            return (word, sense[1], lead, k)
        if word in LONG_WORDS:
            return (word, sense[1], lead, sense[2])
        return (word,) + sense[1:-1] + (lead,)

    def lead(self, sense, aim):
        """To which body or name an instruction leads that aims at the position, and k."""
        if sense[0].startswith("by "):
            return self.slot.get(aim), sense[2] if len(sense) > 3 else 0
        if sense[0] not in ("load", "store"):
            return self.index.get(aim), 0
        for b, (start, end, _, _) in enumerate(self.book):
            if start <= aim < end:
                return b, aim - start
        return None, 0

    def call(self, b, lead, behind):
        """A call of the body, or a try if the image tells where one that ends there goes on."""
        if behind not in self.aim:
            return ("call", lead)
        rows = self.book[b][3]
        if self.aim[behind] not in rows:
            return None
        return ("try", lead, rows.index(self.aim[behind]))
