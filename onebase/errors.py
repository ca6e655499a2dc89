"""Errors: each stands directly below LinkError, and LinkError below ValueError."""


class LinkError(ValueError):
    """What the program refuses."""


class BadAddress(LinkError):
    """No address of memory."""


class BadBases(LinkError):
    """No bases of the scope's images."""


class BadBranch(LinkError):
    """No branch of the bundle."""


class BadBundle(LinkError):
    """No bundle."""


class BadCard(LinkError):
    """No card, or none that is asked for."""


class BadCells(LinkError):
    """No tuple or list of cells."""


class BadCode(LinkError):
    """No whole instruction stands at the position."""

    def __init__(self, at):
        super().__init__(f"at {at}")
        self.at = at


class BadDeed(LinkError):
    """No deed, or none for this line and goal."""


class BadDepth(LinkError):
    """No depth of a shape."""


class BadFile(LinkError):
    """No tree's cells begin so."""

    def __init__(self, at):
        super().__init__(f"at {at}")
        self.at = at


class BadGoal(LinkError):
    """No goal, or none for this line."""


class BadGroups(LinkError):
    """No groups of the line's items."""


class BadImage(LinkError):
    """No image, or none that is asked for."""


class BadImages(LinkError):
    """No tuple of the images that are asked for."""


class BadIndex(LinkError):
    """No index of what is told."""


class BadInputs(LinkError):
    """No inputs."""


class BadInstance(LinkError):
    """No instance of the world."""


class BadItem(LinkError):
    """No number of an item."""


class BadKnot(LinkError):
    """No number of a knot."""


class BadLate(LinkError):
    """Neither True nor False."""


class BadLine(LinkError):
    """No line."""


class BadLot(LinkError):
    """No lot of what is told."""


class BadLots(LinkError):
    """No even parting of the line's web."""


class BadMachine(LinkError):
    """No machine that can be moved."""


class BadMember(LinkError):
    """No number of a member."""


class BadMost(LinkError):
    """No number of rows to run."""


class BadName(LinkError):
    """No name that leads anywhere."""


class BadNaming(LinkError):
    """No naming."""


class BadObject(LinkError):
    """No object of a unit."""


class BadOrder(LinkError):
    """No order of the knots that have bodies."""


class BadParting(LinkError):
    """No even parting."""


class BadPatch(LinkError):
    """No patch of the run."""


class BadPiece(LinkError):
    """No piece."""


class BadPosition(LinkError):
    """No position of the image."""


class BadRow(LinkError):
    """No row of a code body."""


class BadRows(LinkError):
    """No text of a unit begins so."""

    def __init__(self, at):
        super().__init__(f"at {at}")
        self.at = at


class BadRun(LinkError):
    """No run of cells."""


class BadSense(LinkError):
    """No sense of an instruction of so many cells."""


class BadShelf(LinkError):
    """No shelf of cards."""


class BadText(LinkError):
    """No text."""


class BadThing(LinkError):
    """Nothing that files are made of."""


class BadTree(LinkError):
    """No tree."""


class BadUnit(LinkError):
    """No unit."""


class BadWeb(LinkError):
    """No web."""


class BadWord(LinkError):
    """No word of row numbers."""


class BadWorld(LinkError):
    """No world."""


class Far(LinkError):
    """A short branch is too far away."""

    def __init__(self, branch):
        super().__init__(f"branch {branch}")
        self.branch = branch


class InUse(LinkError):
    """Something on the desk names it."""


class Knotted(LinkError):
    """The line has no full order."""


class Missing(LinkError):
    """Nothing defines the names."""

    def __init__(self, names):
        super().__init__(f"names {names}")
        self.names = names


class NameTaken(LinkError):
    """Something else on the shelf has the name."""


class NoEntry(LinkError):
    """The desk has no entry."""


class NoFit(LinkError):
    """The image does not fit into the scope."""


class NoLibrary(LinkError):
    """There is no library of the name."""

    def __init__(self, name):
        super().__init__(f"name {name}")
        self.name = name


class NoSuch(LinkError):
    """The shelf has none of this name."""


class NotFull(LinkError):
    """No full order."""


class NotKept(LinkError):
    """No road leads to the knot."""

    def __init__(self, knot):
        super().__init__(f"knot {knot}")
        self.knot = knot


class NotLet(LinkError):
    """A want of the image cannot be bound."""

    def __init__(self, image, name, why):
        super().__init__(f"image {image}, name {name}, why {why}")
        self.image = image
        self.name = name
        self.why = why


class NotLinked(LinkError):
    """The image is that of no bundle."""


class NotPlain(LinkError):
    """Two define the name."""

    def __init__(self, name):
        super().__init__(f"name {name}")
        self.name = name


class NothingDone(LinkError):
    """There is no deed to take back."""


class NothingUndone(LinkError):
    """There is no undo to take back."""


class OtherCard(LinkError):
    """The card is not that of the library's plan."""

    def __init__(self, name):
        super().__init__(f"name {name}")
        self.name = name


class OtherName(LinkError):
    """The two cards have different names."""


class Rooted(LinkError):
    """The knot is a root."""

    def __init__(self, knot):
        super().__init__(f"knot {knot}")
        self.knot = knot


class Split(LinkError):
    """No body of the new image has the whole lot."""

    def __init__(self, name, lot, row):
        super().__init__(f"name {name}, lot {lot}, row {row}")
        self.name = name
        self.lot = lot
        self.row = row


class TooGreat(LinkError):
    """The image has too many cells."""

    def __init__(self, size):
        super().__init__(f"size {size}")
        self.size = size


class TooMany(LinkError):
    """There are more than that many."""

    def __init__(self, most):
        super().__init__(f"most {most}")
        self.most = most


class TooShort(LinkError):
    """The name has too few cells for what is asked."""

    def __init__(self, unit, piece, name):
        super().__init__(f"unit {unit}, piece {piece}, name {name}")
        self.unit = unit
        self.piece = piece
        self.name = name


class TooWide(LinkError):
    """The images have more cells than memory."""

    def __init__(self, cells):
        super().__init__(f"cells {cells}")
        self.cells = cells


class TwoSorts(LinkError):
    """Two members define the name with two sorts."""

    def __init__(self, name):
        super().__init__(f"name {name}")
        self.name = name


class TwoStrong(LinkError):
    """Two members have strong pieces of the name."""

    def __init__(self, name):
        super().__init__(f"name {name}")
        self.name = name


class WrongSort(LinkError):
    """The name is not of the sort that is asked."""

    def __init__(self, unit, piece, name):
        super().__init__(f"unit {unit}, piece {piece}, name {name}")
        self.unit = unit
        self.piece = piece
        self.name = name
