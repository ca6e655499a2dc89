"""The plain meaning of worlds: rows run by names, never placed anywhere."""

from onebase.errors import BadInputs, BadMost
from onebase.kinds import are_cells, within
from onebase.meaning import Meaning

# What a call of nothing fails with.
NOTHING = 63

MOST_ROWS = 2000


def run_world(world, inputs, most):
    """The errors of Play, BadMost; the showing of the world, of so many rows at most."""
    play = Play(world, inputs)
    if not within(most, 0, MOST_ROWS):
        raise BadMost("no number of rows")
    done = 0
    while done < most and play.step():
        done += 1
    _, _, _, events, end = play.state()
    return events, ("cut",) if end is None else end


class Play:
    """The errors of namings, NotLet, BadInputs; a run led row by row.

    frames are pairs (instance, row), the innermost last: of that the row that
    comes next, of the others the row that waits for those behind.
    """

    def __init__(self, world, inputs):
        self.meaning = Meaning(world)
        if not are_cells(inputs):
            raise BadInputs("no cells")
        self.inputs = list(inputs)
        self.inputs.reverse()
        self.pieces = self.meaning.instances()
        self.aims = {}
        self.cells = {}
        for instance, piece in self.pieces.items():
            if piece[2] == "room":
                self.cells[instance] = [0] * piece[5]
            elif piece[2] in ("data", "const"):
                self.cells[instance] = list(piece[5])
        self.registers = [0] * 4
        self.places = [None] * 2
        self.events = []
        self.end = None
        self.frames = []
        self.later = self.meaning.starts()
        self.later.reverse()
        self.begin()

    def state(self):
        """What there is ahead of the next row, as a tuple."""
        frames = self.trace() if self.end is None else ()
        return frames, tuple(self.registers), tuple(self.places), tuple(self.events), self.end

    def step(self):
        """Whether there was a row to do: it is done."""
        if self.end is not None:
            return False
        instance, n = self.frames[-1]
        row = self.pieces[instance][5][n]
        if row[0] == "ask" and not self.inputs:
            self.end = ("waits",)
            return False
        if row[0] in ("call", "try", "leap", "jump"):
            self.enter(instance, row)
        elif row[0] in ("goto", "if", "return", "stop", "fail"):
            self.turn(instance, n, row)
        else:
            if row[0] in ("load", "store", "item", "fill"):
                self.touch(self.cells[self.aim(instance, row[2])], row)
            elif row[0] in ("take", "pick"):
                self.places[row[1]] = self.shown(self.aim(instance, row[2]), row)
            else:
                self.reckon(row)
            self.frames[-1] = (instance, n + 1)
        return True

    def trace(self):
        """The frames as traces tell them, innermost first."""
        found = []
        for instance, n in reversed(self.frames):
            at, m, x = instance
            found.append((self.meaning.names[at], self.meaning.parts[at][m].unit[1], x, n))
        return tuple(found)

    def aim(self, instance, x):
        """Where a name of an instance leads, asked once for each."""
        key = (instance, x)
        if key not in self.aims:
            self.aims[key] = self.meaning.lead(instance, x)
        return self.aims[key]

    def begin(self):
        """Goes on to the next beginning; behind the last one the run ends."""
        if self.later:
            self.frames = [(self.later.pop(), 0)]
        else:
            self.end = ("stopped",)

    def enter(self, instance, row):
        """A row that goes on in another piece, or fails where there is none."""
        aim = self.places[row[1]] if row[0] == "leap" else self.aim(instance, row[1])
        if aim is None:
            self.fail(NOTHING)
        elif row[0] == "jump":
            self.frames[-1] = (aim, 0)
        else:
            self.frames.append((aim, 0))

    def turn(self, instance, n, row):
        """A row behind which it does not just go on with the next one."""
        if row[0] == "goto":
            self.frames[-1] = (instance, row[1])
        elif row[0] == "if":
            self.frames[-1] = (instance, row[2] if self.registers[row[1]] != 0 else n + 1)
        elif row[0] == "stop":
            self.end = ("stopped",)
        elif row[0] == "fail":
            self.fail(row[1])
        elif len(self.frames) == 1:
            self.begin()
        else:
            self.frames.pop()
            caller, waiting = self.frames[-1]
            self.frames[-1] = (caller, waiting + 1)

    def fail(self, c):
        """Goes out of frames up to one that waits for a try, or itself tried nothing."""
        for many in range(len(self.frames), 0, -1):
            instance, n = self.frames[many - 1]
            row = self.pieces[instance][5][n]
            if row[0] == "try":
                self.registers[0] = c
                self.frames = self.frames[:many - 1] + [(instance, row[2])]
                return
        self.end = ("fails", c, self.trace())

    def touch(self, cells, row):
        """A row that reads or writes a cell."""
        at = row[3] if row[0] in ("load", "store") else self.registers[row[3]] % len(cells)
        if row[0] in ("load", "item"):
            self.registers[row[1]] = cells[at]
        else:
            cells[at] = self.registers[row[1]]

    def shown(self, aim, row):
        """The place that a take or a pick tells."""
        if row[0] == "take":
            return aim
        items = self.pieces[aim][5]
        item = items[self.registers[row[3]] % len(items)]
        return None if item is None else self.aim(aim, item)

    def reckon(self, row):
        """A row that changes registers alone, asks or shows."""
        word, r = row[0], row[1]
        if word == "set":
            self.registers[r] = row[2]
        elif word == "copy":
            self.registers[r] = self.registers[row[2]]
        elif word == "plus":
            self.registers[r] = (self.registers[r] + self.registers[row[2]]) % 64
        elif word == "less":
            self.registers[r] = 1 if self.registers[r] < self.registers[row[2]] else 0
        elif word == "alike":
            self.registers[r] = 1 if self.places[row[2]] == self.places[row[3]] else 0
        elif word == "ask":
            self.registers[r] = self.inputs.pop()
            self.events.append(("asked", self.registers[r]))
        else:
            self.events.append(("shown", self.registers[r]))
