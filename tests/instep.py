"""What [78] and [91] ask of a machine and of a run by names, row by row; and images that carry a plan."""

from onebase.bundles import bundle_of
from onebase.carrying import carries, covers
from onebase.images import image_with, linked
from onebase.loose import loose
from onebase.meaning import instances
from onebase.parting import classes
from onebase.playing import Play
from onebase.traces import lies_in
from onebase.webs import web_of
from onebase.widths import branches, grown
from tests import plainlink, plainrun
from tests.test_carrying import loosened
from tests.test_loose import knots_due


class InStep:
    """For tests: that a machine is in step with the names."""

    def bodies(self, world, images):
        """By instances the addresses, as (index in the scope, position), of the code bodies they may be run in."""
        found = {}
        scoped = plainrun.scope_of(world)
        for k, m, x in instances(world):
            at = scoped.index(k)
            title = plainrun.named(world)[k][2][m][1]
            found[k, m, x] = [(at, start) for start, end, lot, rows in images[at][12] if rows and (title, x) in lot]
        return found

    def check(self, world, machine, inputs, rows=150):
        """[78], row by row; what has the run come to."""
        play = Play(world, inputs)
        bodies = self.bodies(world, machine.images)
        for _ in range(rows):
            self.check_row(play, machine, bodies)
            going = play.step()
            self.assertIs(machine.step(), going)
            if not going:
                break
        self.check_row(play, machine, bodies)
        return play.state()[4]

    def check_row(self, play, machine, bodies):
        frames, registers, places, events, end = play.state()
        lots, other_registers, addresses, other_events, other_end = machine.state()
        self.assertEqual((registers, events), (other_registers, other_events))
        self.assertTrue(lies_in(frames, lots), (frames, lots))
        for place, address in zip(places, addresses):
            if place is None:
                self.assertEqual(address, 0)
            else:
                self.assertIn(machine.spot(address), bodies[place])
        self.check_unforged(machine, {None} | {at for held in bodies.values() for at in held})
        if end is not None and end[0] == "fails":
            self.assertEqual(end[:2], other_end[:2])
            self.assertTrue(lies_in(end[2], other_end[2]))
        else:
            self.assertEqual(end, other_end)

    def check_unforged(self, machine, starts):
        """NO PLACE IS FORGED: places are starts of code bodies; the stack's addresses stand behind calls."""
        for address in machine.state()[2]:
            self.assertIn(machine.spot(address) if address else None, starts)
        cells = machine.held()[3]
        for address in machine.held()[1]:
            k, position = machine.spot(address)
            rows = [row for start, end, lot, rows in machine.images[k][12] for row in rows]
            self.assertIn(position, rows)
            call = max(row for row in rows if row < position)
            self.assertIn(cells[address - position + call], (14, 15, 20, 35))


def one_carrying(rng, line, goal):
    """An image that carries a plan: the linked one, or one with more long branches, or with bodies otherwise."""
    way = rng.randrange(4)
    if way == 0:
        return linked(line, goal)
    bundle = bundle_of(line, goal)
    if way > 1:
        web = web_of(line, goal)
        lots = rng.choice((classes(web), tuple((k,) for k in plainlink.kept(web))))
        order = knots_due(web, lots)
        rng.shuffle(order)
        bundle = loose(line, goal, lots, tuple(order))
    if way > 2 and bundle[7]:
        for _ in range(8):
            other = loosened(rng, bundle)
            if covers(line, goal, other):
                bundle = other
    more = tuple(b for b in branches(bundle) if rng.random() < 0.3)
    image = image_with(bundle, grown(bundle, more))
    assert carries(line, goal, image)
    return image
