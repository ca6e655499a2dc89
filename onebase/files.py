"""Files: trees, and the things that are trees, as rows of cells."""

from onebase.errors import BadCells, BadFile, BadThing, BadTree
from onebase.kinds import are_cells, is_number, is_tagged, is_tuple_of
from onebase.objects import is_object
from onebase.readback import is_image
from onebase.words import is_name

MOST_TUPLES = 12
MOST_LETTERS = 8
MOST_DIGITS = 3
GREATEST = 32767

LETTERS = "abcdefghijklmnopqrstuvwxyz"

BEGIN = 27
END = 28
NONE = 29
FALSE = 30
TRUE = 31
EMPTY = 32
NUMBER = 59

# Added to the last letter of a word, and to all digits of a number but the last.
MARK = 32


def tree_cells(tree):
    """BadTree; the cells of the tree."""
    cells = cells_in(tree, MOST_TUPLES)
    if cells is None:
        raise BadTree("no tree")
    return tuple(cells)


def cells_in(thing, deep):
    """The cells of a tree with at most so many tuples within one another, otherwise None."""
    if thing is None:
        return [NONE]
    if isinstance(thing, bool):
        return [TRUE if thing else FALSE]
    if is_number(thing):
        return [NUMBER] + digits_in(thing) if 0 <= thing <= GREATEST else None
    if isinstance(thing, str):
        return letters_in(thing)
    if not isinstance(thing, tuple) or deep == 0:
        return None
    found = [BEGIN]
    for part in thing:
        cells = cells_in(part, deep - 1)
        if cells is None:
            return None
        found.extend(cells)
    found.append(END)
    return found


def digits_in(number):
    found = [number % 32]
    rest = number // 32
    while rest > 0:
        found.append(MARK + rest % 32)
        rest = rest // 32
    found.reverse()
    return found


def letters_in(word):
    if len(word) > MOST_LETTERS or not all(letter in LETTERS for letter in word):
        return None
    if not word:
        return [EMPTY]
    found = [LETTERS.index(letter) + 1 for letter in word]
    found[-1] += MARK
    return found


def tree_of(cells):
    """BadCells, BadFile; the tree that has these cells."""
    if not are_cells(cells):
        raise BadCells("no cells")
    reading = TreeReading()
    for at, cell in enumerate(cells):
        if not reading.take(cell):
            raise BadFile(at)
    if not reading.whole:
        raise BadFile(len(cells))
    return reading.whole[0]


class TreeReading:
    """What the cells so far tell: tuples begun, and letters or digits of the last tree.

    whole has the tree as soon as there are all of its cells.
    """

    def __init__(self):
        self.whole = []
        self.begun = []
        self.word = ""
        self.digits = None

    def take(self, cell):
        """Takes a cell; whether some tree's cells begin with those so far."""
        if self.whole:
            return False
        if self.digits is not None:
            return self.take_digit(cell)
        if 1 <= cell <= 26 or MARK + 1 <= cell <= MARK + 26:
            return self.take_letter(cell)
        if self.word:
            return False
        if cell == NUMBER:
            self.digits = []
            return True
        if cell == BEGIN:
            self.begun.append([])
            return len(self.begun) <= MOST_TUPLES
        if cell == END:
            if not self.begun:
                return False
            return self.put(tuple(self.begun.pop()))
        return self.take_plain(cell)

    def take_plain(self, cell):
        """Takes a cell that is a whole tree."""
        if cell == NONE:
            return self.put(None)
        if cell == EMPTY:
            return self.put("")
        if cell == TRUE or cell == FALSE:
            return self.put(cell == TRUE)
        return False

    def take_letter(self, cell):
        self.word += LETTERS[cell % MARK - 1]
        if cell < MARK:
            return len(self.word) < MOST_LETTERS
        word = self.word
        self.word = ""
        return self.put(word)

    def take_digit(self, cell):
        self.digits.append(cell % MARK)
        if cell >= MARK:
            # More digits follow: so a first one is no zero, and there is room for one more.
            return len(self.digits) < MOST_DIGITS and (cell > MARK or len(self.digits) > 1)
        number = 0
        for digit in self.digits:
            number = number * 32 + digit
        self.digits = None
        return self.put(number)

    def put(self, tree):
        """Puts a whole tree where it belongs; tells True."""
        held = self.begun[-1] if self.begun else self.whole
        held.append(tree)
        return True


def is_thing(thing):
    """Whether any value is an object, an archive or an image."""
    if is_tagged(thing, "archive", 3):
        return is_name(thing[1]) and is_tuple_of(thing[2], is_object)
    return is_object(thing) or is_image(thing)


def file_of(thing):
    """BadThing; the cells of an object, an archive or an image."""
    if not is_thing(thing):
        raise BadThing("no object, archive or image")
    return tree_cells(thing)


def read_file(cells):
    """BadCells, BadFile, BadThing; the object, archive or image that has these cells."""
    thing = tree_of(cells)
    if not is_thing(thing):
        raise BadThing("no object, archive or image")
    return thing
