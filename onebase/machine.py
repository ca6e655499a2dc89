"""The machine: images run at addresses, without any name."""

from onebase.codes import sense_in
from onebase.errors import BadAddress, BadInputs, BadLate, BadMost
from onebase.kinds import are_cells, within
from onebase.loading import ADDRESSES, card_in, loaded, walk_of
from onebase.playing import MOST_ROWS, NOTHING
from onebase.traces import body_in

# A program that stops at once: a machine over it is made into a copy of another.
IDLE = (
    "image", "", 0, (), (), (), (), (), (), (), (22,), (1, 1, 1, 1, 1, 1),
    ((0, 1, (("a", "a"),), (0,)),),
)

CELL_WORDS = ("load", "store", "item", "fill", "by load", "by store", "by item", "by fill")

PLACE_WORDS = ("take", "pick", "by take", "by pick")

TURNING_WORDS = ("call", "jump", "by call", "by jump", "if", "leap", "return", "stop", "fail")


def run_images(program, libraries, inputs, most, bases=None, late=False):
    """The errors of memory, BadInputs, BadMost, BadLate; the showing of the images."""
    if not within(most, 0, MOST_ROWS):
        # What else is wrong, but for late, counts ahead of this.
        Machine(program, libraries, inputs, bases)
        raise BadMost("no number of rows")
    machine = Machine(program, libraries, inputs, bases, late)
    machine.go(most)
    _, _, _, events, end = machine.state()
    return events, ("cut",) if end is None else end


class Machine:
    """The errors of memory, BadInputs, BadLate; a machine ahead of its first row.

    later has the addresses at which is still to begin, the next one last;
    unbound what belongs into the slots that are not yet bound.
    """

    def __init__(self, program, libraries, inputs, bases=None, late=False):
        loading = loaded(program, libraries, bases)
        if not are_cells(inputs):
            raise BadInputs("no cells")
        if late is not True and late is not False:
            raise BadLate("neither True nor False")
        self.images = loading.images
        self.bases = loading.bases
        self.owner = loading.owner
        self.cells = loading.cells
        self.inputs = list(inputs)
        self.inputs.reverse()
        self.late = late
        self.unbound = {}
        if late:
            self.unbind()
        self.tries = self.tries_in_memory()
        self.registers = [0] * 4
        self.places = [0] * 2
        self.stack = []
        self.events = []
        self.end = None
        self.address = None
        self.later = self.beginnings()
        self.begin()

    def unbind(self):
        """Empties the slots that are bound late."""
        for image, base in zip(self.images, self.bases):
            for position, _, late in image[7]:
                if late:
                    at = base + position
                    self.unbound[at] = (self.cells[at], self.cells[at + 1])
                    self.cells[at] = 0
                    self.cells[at + 1] = 0

    def tries_in_memory(self):
        """By addresses behind tries where these go on."""
        found = {}
        for at, (image, base) in enumerate(zip(self.images, self.bases)):
            for position, aim in image[9]:
                behind = base + position
                if behind < ADDRESSES and self.owner[behind] == at:
                    found[behind] = base + aim
        return found

    def beginnings(self):
        """The addresses at which it begins, the first one last."""
        found = [self.bases[0] + self.images[0][2]]
        for at in reversed(walk_of([card_in(image) for image in self.images])):
            starts = [self.bases[at] + position for position in self.images[at][5]]
            starts.reverse()
            found.extend(starts)
        return found

    def copy(self):
        """A machine as this one is, which goes on by itself."""
        made = Machine(IDLE, (), ())
        made.images = self.images
        made.bases = self.bases
        made.owner = self.owner
        made.cells = list(self.cells)
        made.inputs = list(self.inputs)
        made.late = self.late
        made.unbound = dict(self.unbound)
        made.tries = self.tries
        made.registers = list(self.registers)
        made.places = list(self.places)
        made.stack = list(self.stack)
        made.events = list(self.events)
        made.end = self.end
        made.address = self.address
        made.later = list(self.later)
        return made

    def state(self):
        """What there is ahead of the next row, as a tuple."""
        frames = self.trace(self.address) if self.end is None else ()
        return frames, tuple(self.registers), tuple(self.places), tuple(self.events), self.end

    def held(self):
        """The next address, the stack, the slots not yet bound and the cells of memory."""
        address = self.address if self.end is None else None
        return address, tuple(self.stack), tuple(sorted(self.unbound)), tuple(self.cells)

    def spot(self, address):
        """BadAddress; to which image an address belongs, and where in it, or None."""
        if not within(address, 0, ADDRESSES - 1):
            raise BadAddress("no address")
        return self.spot_of(address)

    def spot_of(self, address):
        if not self.belongs(address):
            return None
        at = self.owner[address]
        return at, address - self.bases[at]

    def belongs(self, address):
        """Whether an address, be it one of memory or not, belongs to an image."""
        return 0 <= address < ADDRESSES and self.owner[address] is not None

    def go(self, rows):
        """BadMost; does so many rows, or those up to an end; how many it did."""
        if not within(rows, 0, MOST_ROWS):
            raise BadMost("no number of rows")
        done = 0
        while done < rows and self.step():
            done += 1
        return done

    def step(self):
        """Whether there was a row to do: it is done."""
        if self.end is not None:
            return False
        here = self.address
        sense, many = self.instruction(here)
        if sense is not None and sense[0] == "ask" and not self.inputs:
            self.end = ("waits",)
            return False
        if sense is None or not self.do(sense, here, here + many):
            self.end = ("lost", here)
            return False
        return True

    def instruction(self, here):
        """The sense of the instruction at an address, None if there is none, and its length."""
        told = sense_in(self.cells, here) if self.belongs(here) else None
        if told is None or not all(self.belongs(here + at) for at in range(told[1])):
            return None, 0
        return told

    def do(self, sense, here, behind):
        """Does an instruction; or does nothing and tells False if it would be lost."""
        word = sense[0]
        if word in TURNING_WORDS:
            return self.turn(sense, here, behind)
        if word in CELL_WORDS:
            return self.touch(sense, here, behind)
        if word in PLACE_WORDS:
            return self.point(sense, here, behind)
        self.reckon(sense)
        self.address = behind
        return True

    def place_at(self, address):
        """The place that two cells tell, None if one of them belongs to no image."""
        if not self.belongs(address) or not self.belongs(address + 1):
            return None
        return self.cells[address] * 64 + self.cells[address + 1]

    def touch(self, sense, here, behind):
        """An instruction that reads or writes a cell."""
        word = sense[0]
        first = behind + sense[-1]
        if word.startswith("by "):
            first = self.place_at(first)
            if first is None:
                return False
            if first == 0:
                return self.fail(NOTHING, here, behind)
        at = first
        if word in ("by load", "by store"):
            at += sense[2]
        elif word not in ("load", "store"):
            at += self.registers[sense[2]] % sense[3]
        if not self.belongs(at):
            return False
        if word in ("load", "item", "by load", "by item"):
            self.registers[sense[1]] = self.cells[at]
        else:
            self.cells[at] = self.registers[sense[1]]
        self.address = behind
        return True

    def point(self, sense, here, behind):
        """An instruction that puts a place into a place register."""
        word = sense[0]
        place = behind + sense[-1]
        if word.startswith("by "):
            place = self.place_at(place)
            if place is None:
                return False
        if word in ("pick", "by pick"):
            if word == "by pick" and place == 0:
                return self.fail(NOTHING, here, behind)
            place = self.place_at(place + 2 * (self.registers[sense[2]] % sense[3]))
            if place is None:
                return False
        self.places[sense[1]] = place
        self.address = behind
        return True

    def turn(self, sense, here, behind):
        """An instruction behind which it does not just go on with the next one."""
        word = sense[0]
        if word == "return":
            if self.stack:
                self.address = self.stack.pop()
            else:
                self.begin()
        elif word == "stop":
            self.end = ("stopped",)
        elif word == "fail":
            self.fail(sense[1], here, behind)
        elif word == "if":
            self.address = behind + sense[2] if self.registers[sense[1]] != 0 else behind
        else:
            return self.enter(word, sense, here, behind)
        return True

    def enter(self, word, sense, here, behind):
        """A call or a jump."""
        if word == "leap":
            place = self.places[sense[1]]
        elif word.startswith("by "):
            place = self.bound(behind + sense[-1])
        else:
            place = behind + sense[-1]
        if place is None:
            return False
        if word in ("leap", "by call", "by jump") and place == 0:
            return self.fail(NOTHING, here, behind)
        if word in ("call", "by call", "leap"):
            self.stack.append(behind)
        self.address = place
        return True

    def bound(self, there):
        """The place that a slot tells, which is bound by this if it was not."""
        if there in self.unbound:
            high, low = self.unbound.pop(there)
            self.cells[there] = high
            self.cells[there + 1] = low
        return self.place_at(there)

    def begin(self):
        """Goes on to the next beginning; behind the last one the run ends."""
        if self.later:
            self.address = self.later.pop()
        else:
            self.end = ("stopped",)

    def fail(self, c, here, behind):
        """Goes on at the innermost try that waits, or ends the run; tells True."""
        for many in range(len(self.stack), -1, -1):
            at = behind if many == len(self.stack) else self.stack[many]
            if at in self.tries:
                self.registers[0] = c
                self.address = self.tries[at]
                self.stack = self.stack[:many]
                return True
        self.end = ("fails", c, self.trace(here))
        return True

    def trace(self, here):
        """The frames: the instruction's at the address, then those of the calls that wait."""
        found = [self.frame(here)]
        for at in reversed(self.stack):
            found.append(self.frame(at - 1))
        return tuple(found)

    def frame(self, address):
        spot = self.spot_of(address)
        if spot is None:
            return "", (), 0
        image = self.images[spot[0]]
        lot, row = body_in(image, spot[1]) or ((), 0)
        return image[1], lot, row

    def reckon(self, sense):
        """An instruction that changes registers alone, asks or shows."""
        word, r = sense[0], sense[1]
        if word == "set":
            self.registers[r] = sense[2]
        elif word == "copy":
            self.registers[r] = self.registers[sense[2]]
        elif word == "plus":
            self.registers[r] = (self.registers[r] + self.registers[sense[2]]) % 64
        elif word == "less":
            self.registers[r] = 1 if self.registers[r] < self.registers[sense[2]] else 0
        elif word == "alike":
            self.registers[r] = 1 if self.places[sense[2]] == self.places[sense[3]] else 0
        elif word == "ask":
            self.registers[r] = self.inputs.pop()
            self.events.append(("asked", self.registers[r]))
        else:
            self.events.append(("shown", self.registers[r]))
