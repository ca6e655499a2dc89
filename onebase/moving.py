"""Machines moved in flight to other images of the same plans."""

from onebase.bundles import bundle_from
from onebase.carrying import Cover
from onebase.errors import BadImages, BadMachine, Split
from onebase.images import image_of
from onebase.keeping import kept_in
from onebase.lines import cards_in
from onebase.machine import Machine
from onebase.meaning import named_plans
from onebase.readback import is_image, read_back


def moved(world, machine, images, bases=None):
    """BadWorld, the errors of namings, BadMachine, BadImages, Split, the errors of memory.

    A machine over the new images that goes on where the machine stands.
    """
    plans = named_plans(world)
    if not isinstance(machine, Machine) or machine.end is not None:
        raise BadMachine("no machine ahead of a row")
    covers = covers_of(world, plans, machine.images)
    olds = carriers(covers, machine.images)
    if None in olds:
        raise BadMachine("an image does not carry the plan of its name")
    if not isinstance(images, tuple) or len(images) != len(covers):
        raise BadImages("no tuple of as many images as there are in the scope")
    news = carriers(covers, images)
    if None in news:
        raise BadImages("an image does not carry its plan")
    move = Move(machine, images, covers, olds, news)
    here = move.row_at(machine.address)
    waiting = [move.row_at(address - 1) for address in reversed(machine.stack)]
    waiting.reverse()
    left = list(machine.inputs)
    left.reverse()
    made = Machine(images[0], images[1:], left, bases, machine.late)
    made.address = move.address_of(made, here)
    # Code never ends in a call: behind each there is a row.
    made.stack = [move.address_of(made, (k, b, row + 1)) for k, b, row in waiting]
    made.registers = list(machine.registers)
    made.places = [move.place_of(made, place) for place in machine.places]
    made.events = list(machine.events)
    # Those that are still to begin are the last ones, which stand ahead.
    made.later = made.later[:len(machine.later)]
    move.copy_cells(made)
    return made


def covers_of(world, plans, images):
    """For each image what carries the plan of its name; None if there is no such plan."""
    number = {"": len(world) - 1}
    for at, plan in enumerate(world[:-1]):
        number[plan[1][1]] = at
    found = []
    for image in images:
        at = number.get(image[1])
        if at is None:
            found.append(None)
        else:
            named, parts = plans[at]
            found.append(Cover(named, parts, cards_in(world[at][2])))
    return found


def carriers(covers, images):
    """For each image, or value of any kind, how it carries what is to be covered, or None."""
    found = []
    for cover, image in zip(covers, images):
        if cover is None or not is_image(image):
            found.append(None)
        else:
            found.append(cover.carried_by(image))
    return found


def is_linked(cover, image):
    """Whether an image that carries what is to be covered is the linked one."""
    bundle = bundle_from(cover.named, cover.web, cover.cards)
    return read_back(image) == bundle and image_of(bundle) == image


class Move:
    """From where to where a machine moves: both images of each plan, and how they carry it."""

    def __init__(self, machine, images, covers, olds, news):
        self.machine = machine
        self.images = images
        self.covers = covers
        self.olds = olds
        self.news = news

    def row_at(self, address):
        """Split; the row at the address, as (index in the scope, new body, row)."""
        k, b, position = self.body_at(address)
        _, _, lot, rows = self.machine.images[k][12][b]
        row = len([start for start in rows if start <= position]) - 1
        new = self.new_body(k, self.olds[k].lots[b])
        if new is None:
            raise Split(self.machine.images[k][1], lot, row)
        return k, new, row

    def new_body(self, k, knots):
        """The first body of the new image in whose lot these knots are, None if there is none."""
        found = self.body_with(k, knots)
        # A lot may have knots, too, that are not kept and never run. The linked
        # image has none of them, and to it a machine can always be moved.
        if found is None and is_linked(self.covers[k], self.images[k]):
            seen = kept_in(self.covers[k].web)
            found = self.body_with(k, [knot for knot in knots if knot in seen])
        return found

    def body_with(self, k, knots):
        for new, others in enumerate(self.news[k].lots):
            if all(knot in others for knot in knots):
                return new
        return None

    def body_at(self, address):
        """To which image and body an address belongs, and its position in the image."""
        k, position = self.machine.spot_of(address)
        for b, (start, end, _, _) in enumerate(self.machine.images[k][12]):
            if start <= position < end:
                return k, b, position
        return None

    def address_of(self, made, spot):
        """Where the made machine has a row."""
        k, b, row = spot
        _, _, _, rows = self.images[k][12][b]
        return made.bases[k] + rows[row]

    def place_of(self, made, address):
        """The place of the same knot."""
        if address == 0:
            return 0
        k, b, _ = self.body_at(address)
        new = self.news[k].place[self.olds[k].shown[b]]
        return self.address_of(made, (k, new, 0))

    def copy_cells(self, made):
        """Gives data and rooms of the made machine the cells that they had."""
        for k, (old, new) in enumerate(zip(self.olds, self.news)):
            spots = {}
            for b, lot in enumerate(old.lots):
                if old.parts[b][1] in ("data", "room"):
                    spots[list(lot)[0]] = b
            for b, lot in enumerate(new.lots):
                if list(lot)[0] in spots:
                    start, end, _, _ = self.machine.images[k][12][spots[list(lot)[0]]]
                    first = made.bases[k] + self.images[k][12][b][0]
                    base = self.machine.bases[k]
                    made.cells[first:first + end - start] = self.machine.cells[base + start:base + end]
