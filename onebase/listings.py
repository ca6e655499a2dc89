"""Listings of images."""

from onebase.codes import sense_in
from onebase.objects import PLAIN
from onebase.readback import read_image


def listing(image):
    """The errors of read_back; a text that tells what stands where in the image."""
    read_image(image)
    _, _, _, _, _, _, _, slots, _, _, cells, ends, book = image
    names = {position: x for position, x, _ in slots}
    found = []
    for start, end, lot, rows in book:
        found.append(" ".join(lot[0]))
        if start >= ends[4]:
            found.append(f"{start}: room {end - start}")
        elif not rows:
            found.append(cells_told(cells, start, end))
        for row in rows:
            found.append(row_told(cells, row, names))
    return "\n".join(found)


def cells_told(cells, start, end):
    return f"{start}: " + " ".join([str(cell) for cell in cells[start:end]])


def row_told(cells, start, names):
    """The row of a listing for the instruction that begins at the position."""
    sense, many = sense_in(cells, start)
    parts = list(sense)
    if sense[0] not in PLAIN:
        aim = start + many + sense[-1]
        parts[-1] = names[aim] if sense[0].startswith("by ") else aim
    return cells_told(cells, start, start + many) + "  " + " ".join([str(part) for part in parts])
