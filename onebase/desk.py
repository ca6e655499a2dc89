"""The desk: units, archives, libraries and a line, led by lines of words."""

from onebase.errors import (
    BadInputs, BadRows, InUse, LinkError, Missing, NameTaken, NoEntry, NoLibrary, NoSuch,
    NothingDone, NothingUndone, TooShort, TwoSorts, TwoStrong, WrongSort,
)
from onebase.images import linked
from onebase.keeping import kept
from onebase.lines import cards_in
from onebase.listings import listing
from onebase.loading import walk
from onebase.machine import run_images
from onebase.meaning import card_of_plan
from onebase.naming import naming
from onebase.objects import assembled
from onebase.playing import run_world
from onebase.readings import is_text, number_in
from onebase.rows import asks
from onebase.taking import members
from onebase.texts import read_unit, read_whole, unit_text
from onebase.webs import web_of
from onebase.words import is_name

MOST_ROWS = 300

# How many words the deeds and questions of each first word have, None if more than one.
SIZES = {
    "archive": None, "line": None, "library": 2, "program": 2, "drop": 2, "give": 2, "take": 2,
    "undo": 1, "redo": 1, "shelf": 1, "text": 2, "asks": 2, "members": 1, "kept": 1, "size": 1,
    "lots": 1, "cells": 1, "listing": 1, "run": 1, "machine": 1,
}


class Desk:
    """A desk as it is now, and as it was behind each deed that undo and redo lead to."""

    def __init__(self):
        self.now = Standing({}, (), None, ())
        self.done = []
        self.undone = []

    def say(self, line):
        """What the desk answers to any value."""
        if not is_text(line):
            return "what"
        try:
            return self.answer(line) or "none"
        except BadRows as e:
            return f"error BadRows {e.at}"
        except Missing as e:
            return "error Missing " + " ".join(e.names)
        except (TwoStrong, TwoSorts, NoLibrary) as e:
            return "error " + e.__class__.__name__ + " " + e.name
        except (WrongSort, TooShort) as e:
            return "error " + e.__class__.__name__ + f" {e.unit or '-'} {e.piece or '-'} {e.name}"
        except LinkError as e:
            return "error " + e.__class__.__name__

    def answer(self, line):
        rows = line.split("\n")
        if len(rows) > 1:
            if rows[0].split()[:1] == ["unit"]:
                return self.deed(self.now.with_unit(line))
            return "what"
        words = line.split(" ")
        if not is_saying(words):
            return "what"
        if words[0] == "undo":
            return self.undo()
        if words[0] == "redo":
            return self.redo()
        standing = self.now.behind(words)
        if standing is not None:
            return self.deed(standing)
        return self.now.asked(words)

    def deed(self, standing):
        self.done.append(self.now)
        self.undone = []
        self.now = standing
        return "ok"

    def undo(self):
        if not self.done:
            raise NothingDone("no deed to take back")
        self.undone.append(self.now)
        self.now = self.done.pop()
        return "ok"

    def redo(self):
        if not self.undone:
            raise NothingUndone("no undo to take back")
        self.done.append(self.now)
        self.now = self.undone.pop()
        return "ok"


def is_saying(words):
    """Whether words of one row have the form of a deed or a question."""
    word = words[0]
    if word not in SIZES:
        return False
    if word == "line":
        return entries_in(words[1:]) is not None
    if word == "archive":
        return len(words) > 2 and all(is_name(x) for x in words[1:])
    if len(words) != SIZES[word]:
        return False
    if word == "give":
        return number_in(words[1], 0, 63) is not None
    if word == "take":
        return words[1] == "back"
    return all(is_name(x) for x in words[1:])


def entries_in(words):
    """What the words of a line name: names, and tuples of those in rounds; None if nothing."""
    found = []
    inner = None
    for word in words:
        if word == "round" and inner is None:
            inner = []
        elif word == "over" and inner:
            found.append(tuple(inner))
            inner = None
        elif not is_name(word):
            return None
        elif inner is None:
            found.append(word)
        else:
            inner.append(word)
    return found if inner is None else None


class Standing:
    """What stands on a desk between two deeds; nothing of it is ever changed.

    shelf has by names ("unit", unit), ("archive", names) or ("library", plan, card);
    line has names, and tuples of names for rounds.
    """

    def __init__(self, shelf, line, entry, inputs):
        self.shelf = shelf
        self.line = line
        self.entry = entry
        self.inputs = inputs

    def with_thing(self, name, thing):
        """With a thing on the shelf, in the place of one of its name."""
        shelf = {x: self.shelf[x] for x in self.shelf}
        shelf[name] = thing
        return Standing(shelf, self.line, self.entry, self.inputs)

    def is_kind(self, name, kind):
        return name in self.shelf and self.shelf[name][0] == kind

    def keep_free(self, name, kind):
        """NameTaken unless the name may be that of a thing of this kind."""
        if name in self.shelf and not self.is_kind(name, kind):
            raise NameTaken("the name is taken")

    def with_unit(self, text):
        unit = read_unit(text)
        self.keep_free(unit[1], "unit")
        return self.with_thing(unit[1], ("unit", unit))

    def behind(self, words):
        """How it stands behind the deed of these words, None if they are no deed."""
        word = words[0]
        if word == "archive":
            return self.with_archive(words[1], tuple(words[2:]))
        if word == "line":
            return self.with_line(tuple(entries_in(words[1:])))
        if word == "library":
            return self.with_library(words[1])
        if word == "program":
            return Standing(self.shelf, self.line, words[1], self.inputs)
        if word == "drop":
            return self.without(words[1])
        if word == "give":
            inputs = self.inputs + (int(words[1]),)
            return Standing(self.shelf, self.line, self.entry, inputs)
        if word == "take":
            if not self.inputs:
                raise BadInputs("no input")
            return Standing(self.shelf, self.line, self.entry, self.inputs[:-1])
        return None

    def with_archive(self, name, names):
        if not all(self.is_kind(x, "unit") for x in names):
            raise NoSuch("no unit of the shelf")
        self.keep_free(name, "archive")
        return self.with_thing(name, ("archive", names))

    def with_line(self, entries):
        for entry in entries:
            if isinstance(entry, tuple):
                if not all(self.is_kind(x, "archive") for x in entry):
                    raise NoSuch("no archive of the shelf")
            elif entry not in self.shelf:
                raise NoSuch("nothing of the shelf")
        return Standing(self.shelf, entries, self.entry, self.inputs)

    def with_library(self, name):
        self.keep_free(name, "library")
        items = self.line_items()
        goal = ("library", name)
        card = card_of_plan(naming(items, goal), cards_in(items))
        return self.with_thing(name, ("library", ("plan", goal, items), card))

    def without(self, name):
        if name not in self.shelf:
            raise NoSuch("nothing of the shelf")
        if self.is_used(name):
            raise InUse("something names it")
        shelf = {x: self.shelf[x] for x in self.shelf if x != name}
        return Standing(shelf, self.line, self.entry, self.inputs)

    def is_used(self, name):
        """Whether an archive, the line or another library's plan names a thing."""
        for entry in self.line:
            if name == entry or isinstance(entry, tuple) and name in entry:
                return True
        for x, thing in self.shelf.items():
            if thing[0] == "archive" and name in thing[1]:
                return True
            if thing[0] == "library" and x != name and name in needs_of(thing[1]):
                return True
        return False

    def line_items(self):
        """The items that the line names."""
        found = []
        for entry in self.line:
            if isinstance(entry, tuple):
                found.append(("round", tuple([self.archive(x) for x in entry])))
            elif self.shelf[entry][0] == "archive":
                found.append(self.archive(entry))
            elif self.shelf[entry][0] == "unit":
                found.append(("object", assembled(self.shelf[entry][1])))
            else:
                found.append(("library", self.shelf[entry][2]))
        return tuple(found)

    def archive(self, name):
        _, names = self.shelf[name]
        return ("archive", name, tuple([assembled(self.shelf[x][1]) for x in names]))

    def world(self):
        """The plans of the libraries in the order of the walk, then that of the program."""
        program = ("plan", self.goal(), self.line_items())
        needs = {"": needs_of(program)}
        plans = {"": program}
        for x, thing in self.shelf.items():
            if thing[0] == "library":
                needs[x] = needs_of(thing[1])
                plans[x] = thing[1]
        return tuple([plans[x] for x in walk(needs, "")])

    def goal(self):
        return ("program", self.entry)

    def asked(self, words):
        """What is answered to the question of these words."""
        if words[0] == "shelf":
            return " ".join(sorted(self.shelf))
        if words[0] == "text":
            if not self.is_kind(words[1], "unit"):
                raise NoSuch("no unit of the shelf")
            return unit_text(self.shelf[words[1]][1])
        if words[0] == "asks":
            return "\n".join(self.asking(words[1]))
        if self.entry is None:
            raise NoEntry("no entry")
        if words[0] == "run":
            return shown(run_world(self.world(), self.inputs, MOST_ROWS))
        if words[0] == "machine":
            images = [linked(plan[2], plan[1]) for plan in self.world()]
            return shown(run_images(images[-1], tuple(images[:-1]), self.inputs, MOST_ROWS))
        if words[0] == "members":
            return " ".join([made[1] for made in members(self.line_items(), self.goal())])
        if words[0] == "kept":
            return " ".join(self.kept_pairs())
        return told_of(words[0], linked(self.line_items(), self.goal()))

    def asking(self, name):
        """For each row of a unit's text that leads to the name the unit and the row."""
        found = []
        for x in sorted(self.shelf):
            if self.is_kind(x, "unit"):
                found.extend([f"{x} {at}" for at in asking_rows(self.shelf[x][1], name)])
        return found

    def kept_pairs(self):
        web = web_of(self.line_items(), self.goal())
        names = [made[1] for made in members(self.line_items(), self.goal())]
        spots = [web[3][knot][1] for knot in kept(web)]
        return [names[m] + "." + x for m, x in spots]


def needs_of(plan):
    """The names of the cards of a plan's line."""
    return [card[1] for card in cards_in(plan[2])]


def asking_rows(unit, name):
    """The ascending indexes of the rows of the unit's text that lead to the name."""
    spots = read_whole(unit_text(unit)).spots
    found = {}
    for piece in unit[4]:
        for at, _, x, _ in asks(piece[2], piece[5]):
            if x == name:
                found[spots[piece[1]][at]] = True
    return sorted(found)


def told_of(word, image):
    """What is answered of the image that the line is linked to."""
    if word == "listing":
        return listing(image)
    if word == "cells":
        return " ".join([str(cell) for cell in image[10]])
    if word == "size":
        return " ".join([str(end) for end in image[11]])
    return "\n".join([" ".join([".".join(pair) for pair in lot]) for _, _, lot, _ in image[12]])


def shown(showing):
    """How a showing is told."""
    events, end = showing
    words = [part for event in events for part in event] + list(end[:2])
    rows = [" ".join([str(part) for part in words])]
    if end[0] == "fails":
        rows.extend([frame_told(frame) for frame in end[2]])
    return "\n".join(rows)


def frame_told(frame):
    """How a frame is told: by names (image, unit, piece, row), or with a lot for the two."""
    name, row = frame[0], frame[-1]
    if len(frame) == 4:
        unit, piece = frame[1:3]
    else:
        unit, piece = frame[1][0] if frame[1] else ("-", "-")
    return f"{name or '-'} {unit} {piece} {row}"
