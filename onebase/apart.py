"""Images taken apart: one unit that links to the same image again."""

from onebase.errors import TooMany
from onebase.folding import TELLING
from onebase.kinds import is_number
from onebase.readback import read_back
from onebase.readings import MOST_PIECES, next_word
from onebase.rows import asks, with_leads
from onebase.words import is_name

# Words that may ask for a spare name.
SPARE_WORDS = ("call", "try", "jump", "take")


def taken_apart(image):
    """The errors of read_back, TooMany(24); the pair (unit, goal) of the image."""
    bundle = read_back(image)
    making = Making(bundle)
    pieces = making.pieces()
    if len(pieces) > MOST_PIECES:
        raise TooMany(MOST_PIECES)
    unit = ("unit", "a", making.spares(pieces), making.starts, pieces)
    if bundle[1] != "":
        return unit, ("library", bundle[1])
    return unit, ("program", making.names[bundle[2]])


class Making:
    """The pieces for the bodies of a bundle, and copies of them behind."""

    def __init__(self, bundle):
        _, self.library, self.entry, _, self.wants, starts, exports, self.parts = bundle
        self.barred = {want[0]: True for want in self.wants}
        self.last = ""
        self.exports = {}
        for x, index in exports:
            self.barred[x] = True
            self.exports.setdefault(index, []).append(x)
        self.names = [self.exports[b][0] if b in self.exports else self.new_name()
                      for b in range(len(self.parts))]
        # In a library what is open is led to by slot; so what leads to it by
        # distance was another piece, alike, and needs a name of its own.
        self.near = list(self.names)
        self.copies = []
        near = self.led_by_rows() if self.library != "" else {}
        for b in self.exports:
            for x in self.exports[b][1:]:
                self.copies.append((x, b, "open"))
            if b in near:
                self.near[b] = self.copy(b)
        self.starts = self.starts_for(starts)

    def new_name(self):
        """A name that nothing has so far."""
        self.last = next_word(self.last) if self.last else "a"
        while self.last in self.barred or not is_name(self.last):
            self.last = next_word(self.last)
        return self.last

    def copy(self, b):
        x = self.new_name()
        self.copies.append((x, b, "own"))
        return x

    def led_by_rows(self):
        """A dict of the bodies to which rows lead by distance."""
        found = {}
        for _, sort, _, body in self.parts:
            for _, _, lead, _ in asks(sort, body) if sort == "code" else []:
                if is_number(lead):
                    found[lead] = True
        return found

    def shown(self):
        """A dict of the bodies to which takes and items of tables lead."""
        found = {}
        for _, sort, _, body in self.parts:
            for _, word, lead, _ in asks(sort, body):
                if word in TELLING and is_number(lead):
                    found[lead] = True
        return found

    def starts_for(self, starts):
        """The names of the starts: own pieces whose places nothing shows."""
        shown = self.shown()
        found = {}
        for b in starts:
            if b not in found:
                apart = b in self.exports or b == self.entry or b in shown
                found[b] = self.copy(b) if apart else self.names[b]
        return tuple([found[b] for b in starts])

    def pieces(self):
        found = []
        for b, x in enumerate(self.names):
            reach = "hidden" if b == self.entry else "own"
            found.append(self.piece(x, b, "open" if b in self.exports else reach))
        for x, b, reach in self.copies:
            found.append(self.piece(x, b, reach))
        if not found:
            found.append(("piece", self.new_name(), "room", "own", "strong", 1))
        return tuple(found)

    def piece(self, x, b, reach):
        _, sort, _, body = self.parts[b]
        told = with_leads(sort, body, lambda _, lead: self.near[lead] if is_number(lead) else lead)
        return ("piece", x, sort, reach, "strong", told)

    def spares(self, pieces):
        """The spare names of the unit: those of the wants that it asks for as such alone."""
        names = {piece[1]: True for piece in pieces}
        asked = {}
        for _, _, sort, _, _, body in pieces:
            for _, word, x, _ in asks(sort, body):
                asked[x] = word in SPARE_WORDS and asked.get(x, True)
        return tuple([x for x, _, _, spare in self.wants
                      if spare and asked.get(x, False) and x not in names])
