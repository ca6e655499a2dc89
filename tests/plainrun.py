"""A second reading of what the document says of loading, of worlds and of how they and machines run.

As plain as can be: all is looked up anew in each row; images are taken to be right ones.
"""

import functools

from tests import plainlink
from tests.plainlink import Told


# Loading.

def scope(program, libraries):
    have = {i[1]: i for i in libraries}
    for x in program[3]:
        if x not in have:
            raise Told("NoLibrary", name=x)
    for x in program[3]:
        for y in have[x][3]:
            if y not in program[3]:
                raise Told("NoLibrary", name=y)
    return (program,) + tuple(have[x] for x in program[3])


def back_from(here, behind, seen):
    """What a walk from here comes back from, in order."""
    if here in seen:
        return []
    seen.append(here)
    return [x for there in behind(here) for x in back_from(there, behind, seen)] + [here]


def image_order(images):
    names = [i[1] for i in images]
    return back_from(0, lambda k: [names.index(x) for x in images[k][3]], [])


def beginnings(program, libraries):
    images = scope(program, libraries)
    return tuple((k, s) for k in image_order(images) for s in images[k][5]) + ((0, program[2]),)


def bindings(program, libraries):
    images = scope(program, libraries)
    found = []
    for image in images:
        held = []
        for x, sort, many, spare in image[4]:
            told = [(k, e) for k, i in enumerate(images) for e in i[6] if e[0] == x]
            if not told:
                if not spare:
                    raise Told("NotLet", image=image[1], name=x, why="lacks")
                held.append(None)
                continue
            k, (_, other, position, length) = told[0]
            if other != sort:
                raise Told("NotLet", image=image[1], name=x, why="sort")
            if length != many:
                raise Told("NotLet", image=image[1], name=x, why="length")
            held.append((k, position))
        found.append(tuple(held))
    return tuple(found)


def are_bases(program, libraries, thing):
    images = scope(program, libraries)
    if type(thing) is not tuple or len(thing) != len(images):
        return False
    if any(type(b) is not int or not 1 <= b <= 4096 for b in thing):
        return False
    held = [a for b, i in zip(thing, images) for a in range(b, b + i[11][5])]
    return len(set(held)) == len(held) and all(a <= 4095 for a in held)


def bases_for(program, libraries):
    images = scope(program, libraries)
    if sum(i[11][5] for i in images) > 4095:
        raise Told("TooWide", cells=sum(i[11][5] for i in images))
    return tuple(1 + sum(i[11][5] for i in images[:k]) for k in range(len(images)))


def memory(program, libraries, bases=None):
    bound = bindings(program, libraries)
    if bases is None:
        bases = bases_for(program, libraries)
    elif not are_bases(program, libraries, bases):
        raise Told("BadBases")
    cells = [0] * 4096
    for image, base, pairs in zip(scope(program, libraries), bases, bound):
        for k, c in enumerate(image[10]):
            cells[base + k] = c
        names = {w[0]: 0 if pair is None else bases[pair[0]] + pair[1] for w, pair in zip(image[4], pairs)}
        for position, x, _ in image[7]:
            cells[base + position:base + position + 2] = [names[x] // 64, names[x] % 64]
        for position, lead in image[8]:
            a = base + lead if type(lead) is int else names[lead]
            cells[base + position:base + position + 2] = [a // 64, a % 64]
    return tuple(cells)


# Worlds.

@functools.lru_cache(maxsize=None)
def named(world):
    return [plainlink.naming(line, goal) for _, goal, line in world]


def needs(world, k):
    names = [plan[1][1] for plan in world[:-1]]
    return [names.index(c[1]) for c in plainlink.cards_of(world[k][2])]


def scope_of(world):
    return [len(world) - 1] + needs(world, len(world) - 1)


def piece_at(world, instance):
    k, m, x = instance
    return [p for p in plainlink.pieces_of(named(world)[k][2][m]) if p[1] == x][0]


def instances(world):
    found = []
    for k in scope_of(world):
        _, _, taken, table, _, _ = named(world)[k]
        for m, o in enumerate(taken):
            found += [(k, m, p[1]) for p in plainlink.pieces_of(o)
                      if p[3] == "own" or dict(table)[p[1]] == ("piece", m)]
    return tuple(sorted(found))


def refused(world):
    """The NotLet of a world, None if it is let."""
    cards = [(world[k][1][1] if k < len(world) - 1 else "", named(world)[k]) for k in scope_of(world)]
    for title, n in cards:
        for x, sort, many, spare in n[4]:
            told = [e for _, other in cards for e in other[5] if e[0] == x]
            if not told and not spare:
                return ("NotLet", {"image": title, "name": x, "why": "lacks"})
            if told and told[0][1] != sort:
                return ("NotLet", {"image": title, "name": x, "why": "sort"})
            if told and told[0][2] != many:
                return ("NotLet", {"image": title, "name": x, "why": "length"})
    return None


def where(world, instance, x):
    k, m, _ = instance
    place = plainlink.leads_to(named(world)[k], m, x)
    if place != ("slot",):
        return (k, place[1], x)
    for other in scope_of(world):
        if x in [e[0] for e in named(world)[other][5]]:
            return (other, dict(named(world)[other][3])[x][1], x)
    return None


class Run:
    """A run by names; each step is told in the words of the document's part 3."""

    def __init__(self, world, inputs):
        self.world = world
        self.names = named(world)
        self.known = {}
        self.inputs = list(inputs)
        self.r, self.p = [0] * 4, [None] * 2
        self.events, self.end = [], None
        self.data = {}
        last = len(world) - 1
        self.todo = [(k, m, x) for k in back_from(last, lambda k: needs(world, k), [])
                     for m, o in enumerate(self.names[k][2]) for x in o[3]]
        entry = world[last][1][1]
        self.todo.append((last, dict(self.names[last][3])[entry][1], entry))
        self.stack = [[self.todo.pop(0), 0]]

    def piece(self, instance):
        if instance not in self.known:
            self.known[instance] = piece_at(self.world, instance)
        return self.known[instance]

    def aim(self, instance, x):
        if (instance, x) not in self.known:
            self.known[instance, x] = where(self.world, instance, x)
        return self.known[instance, x]

    def cells(self, instance):
        sort, body = self.piece(instance)[2], self.piece(instance)[5]
        return self.data.setdefault(instance, [0] * body if sort == "room" else list(body))

    def frames(self):
        return tuple((self.world[k][1][1] if k < len(self.world) - 1 else "", self.names[k][2][m][1], x, n)
                     for (k, m, x), n in reversed(self.stack))

    def state(self):
        frames = () if self.end else self.frames()
        return frames, tuple(self.r), tuple(self.p), tuple(self.events), self.end

    def fail(self, c):
        trace = self.frames()
        while self.stack:
            instance, n = self.stack[-1]
            row = self.piece(instance)[5][n]
            if row[0] == "try":
                self.r[0] = c
                self.stack[-1][1] = row[2]
                return
            self.stack.pop()
        self.end = ("fails", c, trace)

    def step(self):
        if self.end:
            return False
        instance, n = self.stack[-1]
        row = self.piece(instance)[5][n]
        if row[0] == "ask" and not self.inputs:
            self.end = ("waits",)
            return False
        self.row(instance, n, row)
        return True

    def row(self, instance, n, row):
        word, r, p = row[0], self.r, self.p
        if word in ("call", "try", "jump", "leap"):
            there = p[row[1]] if word == "leap" else self.aim(instance, row[1])
            if there is None:
                self.fail(63)
            else:
                if word == "jump":
                    self.stack.pop()
                self.stack.append([there, 0])
            return
        if word == "return":
            self.stack.pop()
            if self.stack:
                self.stack[-1][1] += 1
            elif self.todo:
                self.stack = [[self.todo.pop(0), 0]]
            else:
                self.end = ("stopped",)
            return
        if word == "stop":
            self.end = ("stopped",)
            return
        if word == "fail":
            self.fail(row[1])
            return
        on = row[1] if word == "goto" else row[2] if word == "if" and r[row[1]] else n + 1
        self.stack[-1][1] = on
        self.value(instance, row)

    def value(self, instance, row):
        word, r, p = row[0], self.r, self.p
        if word == "set":
            r[row[1]] = row[2]
        elif word == "copy":
            r[row[1]] = r[row[2]]
        elif word == "plus":
            r[row[1]] = (r[row[1]] + r[row[2]]) % 64
        elif word == "less":
            r[row[1]] = int(r[row[1]] < r[row[2]])
        elif word == "ask":
            r[row[1]] = self.inputs.pop(0)
            self.events.append(("asked", r[row[1]]))
        elif word == "show":
            self.events.append(("shown", r[row[1]]))
        elif word in ("load", "store", "item", "fill"):
            held = self.cells(self.aim(instance, row[2]))
            k = row[3] if word in ("load", "store") else r[row[3]] % len(held)
            if word in ("load", "item"):
                r[row[1]] = held[k]
            else:
                held[k] = r[row[1]]
        elif word == "take":
            p[row[1]] = self.aim(instance, row[2])
        elif word == "pick":
            there = self.aim(instance, row[2])
            items = self.piece(there)[5]
            x = items[r[row[3]] % len(items)]
            p[row[1]] = None if x is None else self.aim(there, x)
        elif word == "alike":
            r[row[1]] = int(p[row[2]] == p[row[3]])


def run_world(world, inputs, most):
    run = Run(world, inputs)
    for _ in range(most):
        if not run.step():
            break
    return tuple(run.events), run.end or ("cut",)


# The machine.

FORMS = {
    1: "rc", 2: "rr", 3: "rr", 4: "rr", 5: "r", 6: "r", 7: "rD", 8: "rD", 9: "rrLD", 10: "rrLD", 11: "pD", 12: "prLD",
    13: "rpp", 14: "d", 15: "D", 16: "d", 17: "D", 18: "rd", 19: "rD", 20: "p", 21: "", 22: "", 23: "f",
    27: "rkD", 28: "rkD", 29: "rrLD", 30: "rrLD", 31: "pD", 32: "prLD", 35: "D", 37: "D",
}


class Lost(Exception):
    pass


class Iron:
    """A machine; bases are told, and inputs are right ones."""

    def __init__(self, program, libraries, inputs, bases, late=False):
        self.images = scope(program, libraries)
        self.bases = bases
        self.m = list(memory(program, libraries, bases))
        self.inputs = list(inputs)
        self.r, self.p = [0] * 4, [0] * 2
        self.stack, self.events, self.end = [], [], None
        self.wait = {}
        for image, base in zip(self.images, bases):
            for position, _, is_late in image[7]:
                if late and is_late:
                    self.wait[base + position] = self.m[base + position:base + position + 2]
                    self.m[base + position:base + position + 2] = [0, 0]
        self.todo = [bases[k] + at for k, at in beginnings(program, libraries)]
        self.at = self.todo.pop(0)

    def spot(self, address):
        for k, (image, base) in enumerate(zip(self.images, self.bases)):
            if base <= address < base + image[11][5]:
                return k, address - base
        return None

    def held(self):
        return (None if self.end else self.at), tuple(self.stack), tuple(sorted(self.wait)), tuple(self.m)

    def state(self):
        frames = () if self.end else self.trace()
        return frames, tuple(self.r), tuple(self.p), tuple(self.events), self.end

    def trace(self):
        found = []
        for address in [self.at] + [a - 1 for a in reversed(self.stack)]:
            spot = self.spot(address)
            if spot is None:
                found.append(("", (), 0))
                continue
            k, position = spot
            image = self.images[k]
            lots = [(lot, max(n for n, x in enumerate(rows) if x <= position))
                    for start, end, lot, rows in image[12] if rows and start <= position < end]
            found.append((image[1],) + (lots[0] if lots else ((), 0)))
        return tuple(found)

    def read(self, address):
        if self.spot(address) is None:
            raise Lost
        return self.m[address]

    def place(self, address):
        return 64 * self.read(address) + self.read(address + 1)

    def parts(self):
        """The code, the parts and the address behind the instruction."""
        code, at, found = self.read(self.at), self.at + 1, []
        if code not in FORMS:
            raise Lost
        limits = {"r": 3, "p": 1, "c": 63, "k": 63, "f": 62, "L": 63, "d": 63}
        for letter in FORMS[code]:
            if letter == "D":
                d = self.place(at)
                found.append(d - 4096 if d >= 2048 else d)
                at += 2
                continue
            c = self.read(at)
            if c > limits[letter]:
                raise Lost
            if letter == "d":
                c = c - 64 if c >= 32 else c
            found.append(64 if letter == "L" and c == 0 else c)
            at += 1
        return code, found, at

    def step(self):
        if self.end:
            return False
        try:
            code, parts, behind = self.parts()
            if code == 5 and not self.inputs:
                self.end = ("waits",)
                return False
            self.row(code, parts, behind)
        except Lost:
            self.end = ("lost", self.at)
            return False
        return True

    def fail(self, c, behind):
        trace, rest = self.trace(), list(self.stack)
        look = [behind] + rest[::-1]
        for many, address in enumerate(look):
            for image, base in zip(self.images, self.bases):
                for n, m in image[9]:
                    if base + n == address and n < image[11][5]:
                        self.r[0] = c
                        self.at = base + m
                        self.stack = rest[:len(rest) - many]
                        return
        self.end = ("fails", c, trace)

    def row(self, code, parts, behind):
        r, p, on = self.r, self.p, behind
        there = behind + parts[-1] if "D" in FORMS[code] or "d" in FORMS[code] else None
        if code in (35, 37) and there in self.wait:
            self.m[there:there + 2] = self.wait.pop(there)
        slot = self.place(there) if code in (27, 28, 29, 30, 31, 32, 35, 37) else None
        if slot == 0 and code != 31 or code == 20 and p[parts[0]] == 0:
            self.fail(63, behind)
            return
        base = there if slot is None else slot
        if code == 1:
            r[parts[0]] = parts[1]
        elif code == 2:
            r[parts[0]] = r[parts[1]]
        elif code == 3:
            r[parts[0]] = (r[parts[0]] + r[parts[1]]) % 64
        elif code == 4:
            r[parts[0]] = int(r[parts[0]] < r[parts[1]])
        elif code == 5:
            r[parts[0]] = self.inputs.pop(0)
            self.events.append(("asked", r[parts[0]]))
        elif code == 6:
            self.events.append(("shown", r[parts[0]]))
        elif code in (7, 8, 27, 28, 9, 10, 29, 30):
            k = {7: 0, 8: 0, 27: parts[1], 28: parts[1]}.get(code)
            if k is None:
                k = r[parts[1]] % parts[2]
            if code in (7, 27, 9, 29):
                r[parts[0]] = self.read(base + k)
            else:
                self.read(base + k)
                self.m[base + k] = r[parts[0]]
        elif code in (11, 31):
            p[parts[0]] = base
        elif code in (12, 32):
            p[parts[0]] = self.place(base + 2 * (r[parts[1]] % parts[2]))
        elif code == 13:
            r[parts[0]] = int(p[parts[1]] == p[parts[2]])
        elif code in (14, 15, 35, 20):
            self.stack.append(behind)
            on = p[parts[0]] if code == 20 else base
        elif code in (16, 17, 37):
            on = base
        elif code in (18, 19):
            on = base if r[parts[0]] else behind
        elif code == 21:
            if self.stack:
                on = self.stack.pop()
            elif self.todo:
                on = self.todo.pop(0)
            else:
                self.end = ("stopped",)
        elif code == 22:
            self.end = ("stopped",)
        elif code == 23:
            self.fail(parts[0], behind)
            return
        self.at = on


def run_images(program, libraries, inputs, most, bases, late=False):
    iron = Iron(program, libraries, inputs, bases, late)
    for _ in range(most):
        if not iron.step():
            break
    return tuple(iron.events), iron.end or ("cut",)
