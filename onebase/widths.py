"""Widths: which branches of a bundle must be long."""

from onebase.bundles import check_bundle
from onebase.codes import FORMS, LIMITS, size_of
from onebase.errors import BadBranch, BadLot
from onebase.kinds import are_different, is_number, is_rising, is_tuple_of
from onebase.rows import lead_in

# Rows that are laid down as instructions of another word.
LAID_AS = {"try": "call", "goto": "jump"}


def short_sizes():
    """By words how many cells their instructions have, the short ones of branches."""
    sizes = {}
    for word, letters in list(FORMS.values()):
        sizes[word] = min(size_of(letters), sizes.get(word, size_of(letters)))
    return sizes


def laid_word(row):
    """The word of the instruction as which a row is laid down."""
    word = LAID_AS.get(row[0], row[0])
    lead = lead_in(row)
    if lead is None or is_number(lead):
        return word
    return "by " + word


def is_branching(row):
    if row[0] in ("goto", "if"):
        return True
    return row[0] in ("call", "try", "jump") and is_number(lead_in(row))


class Layout:
    """Where rows of code stand while all branches are short, and what that moves.

    Branches are told by their numbers in the order in which they are laid
    down; flags are a list that has 1 for each long one, otherwise 0.
    """

    def __init__(self, bundle):
        self.codes = [part[3] for part in bundle[7] if part[1] == "code"]
        self.lot = []
        self.starts = []
        self.ahead = []
        sizes = short_sizes()
        at = 0
        for b, body in enumerate(self.codes):
            starts = [at]
            ahead = [len(self.lot)]
            for n, row in enumerate(body):
                if is_branching(row):
                    self.lot.append((b, n))
                at += sizes[laid_word(row)]
                starts.append(at)
                ahead.append(len(self.lot))
            self.starts.append(starts)
            self.ahead.append(ahead)
        self.number = {branch: number for number, branch in enumerate(self.lot)}

    def aim(self, branch):
        """The body and the row at whose start a branch aims."""
        b, n = branch
        row = self.codes[b][n]
        if row[0] in ("goto", "if"):
            return b, row[-1]
        return lead_in(row), 0

    def distance(self, number, sums):
        """The distance of a branch; sums tells how many are long ahead of each."""
        b, n = self.lot[number]
        body, row = self.aim((b, n))
        short = self.starts[body][row] - self.starts[b][n + 1]
        return short + sums[self.ahead[body][row]] - sums[number + 1]

    def is_far(self, number, sums):
        low, high = LIMITS["d"]
        return not low <= self.distance(number, sums) <= high

    def far(self, flags):
        """The numbers of the short branches that are far."""
        sums = sums_of(flags)
        return [number for number, flag in enumerate(flags)
                if flag == 0 and self.is_far(number, sums)]

    def places(self, flags):
        """For each code body the starts of its rows and its end."""
        sums = sums_of(flags)
        return [[at + sums[many] for at, many in zip(starts, ahead)]
                for starts, ahead in zip(self.starts, self.ahead)]

    def has(self, thing):
        """Whether any value is a branch of the bundle."""
        if not is_tuple_of(thing, is_number) or len(thing) != 2:
            return False
        return thing in self.number

    def flags_of(self, lot):
        """BadLot for any value that is no lot; its flags."""
        if not is_tuple_of(lot, lambda part: self.has(part)) or not is_rising(lot):
            raise BadLot("no lot of branches")
        flags = [0] * len(self.lot)
        for branch in lot:
            flags[self.number[branch]] = 1
        return flags

    def lot_of(self, numbers):
        return tuple([self.lot[number] for number in numbers])


def sums_of(flags):
    """How many flags there are ahead of each one, and in all."""
    sums = [0]
    for flag in flags:
        sums.append(sums[-1] + flag)
    return sums


def layout_of(bundle):
    check_bundle(bundle)
    return Layout(bundle)


def branches(bundle):
    """BadBundle; all branches of the bundle, a lot."""
    return tuple(layout_of(bundle).lot)


def places(bundle, long):
    """BadBundle, BadLot; for each code body the starts of its rows and its end."""
    layout = layout_of(bundle)
    return tuple([tuple(rows) for rows in layout.places(layout.flags_of(long))])


def distance(bundle, long, branch):
    """BadBundle, BadLot, BadBranch; the distance of the branch if just long is long."""
    layout = layout_of(bundle)
    flags = layout.flags_of(long)
    if not layout.has(branch):
        raise BadBranch("no branch of the bundle")
    return layout.distance(layout.number[branch], sums_of(flags))


def far(bundle, long):
    """BadBundle, BadLot; the lot of the branches that are far if just long is long."""
    layout = layout_of(bundle)
    return layout.lot_of(layout.far(layout.flags_of(long)))


def grown(bundle, long=()):
    """BadBundle, BadLot; the least lot that holds and has all of long."""
    layout = layout_of(bundle)
    flags = layout.flags_of(long)
    waves_from(layout, flags)
    return layout.lot_of([number for number, flag in enumerate(flags) if flag == 1])


def waves_from(layout, flags):
    """Makes waves long, in flags, until nothing is far; the waves, as numbers."""
    found = []
    wave = layout.far(flags)
    while wave:
        found.append(wave)
        for number in wave:
            flags[number] = 1
        wave = layout.far(flags)
    return found


def waves(bundle):
    """BadBundle; the lots that become far one after another."""
    layout = layout_of(bundle)
    return tuple([layout.lot_of(wave) for wave in waves_from(layout, layout.flags_of(()))])


def is_forced(bundle, thing):
    """BadBundle; whether any value tells, in order, just what must be long."""
    layout = layout_of(bundle)
    if not is_tuple_of(thing, lambda part: layout.has(part)) or not are_different(thing):
        return False
    flags = layout.flags_of(())
    for branch in thing:
        number = layout.number[branch]
        if not layout.is_far(number, sums_of(flags)):
            return False
        flags[number] = 1
    return not layout.far(flags)


def forced(bundle):
    """BadBundle; the branches that must be long, each far behind those ahead of it."""
    return tuple([branch for wave in waves(bundle) for branch in wave])
