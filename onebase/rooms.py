"""How much code may come in somewhere, so that the same branches stay long."""

from onebase.codes import LIMITS
from onebase.errors import BadRow
from onebase.kinds import within
from onebase.widths import layout_of, sums_of, waves_from


def room(bundle, b, n):
    """BadBundle, BadRow; how many cells may come in ahead of a row, and which branch is far then."""
    layout = layout_of(bundle)
    if not within(b, 0, len(layout.codes) - 1) or not within(n, 0, len(layout.codes[b]) - 1):
        raise BadRow("no row of a code body")
    flags = layout.flags_of(())
    waves_from(layout, flags)
    sums = sums_of(flags)
    found = []
    for number, flag in enumerate(flags):
        if flag == 0:
            many = spare_cells(layout.distance(number, sums), layout.lot[number] >= (b, n),
                               layout.aim(layout.lot[number]) >= (b, n))
            if many is not None:
                found.append((many, layout.lot[number]))
    return min(found) if found else None


def spare_cells(far, moves, aim_moves):
    """How many cells may come between a short branch and its aim; None if none come there."""
    if moves == aim_moves:
        return None
    low, high = LIMITS["d"]
    return far - low if moves else high - far
