import random
import unittest

from onebase.codes import parted
from onebase.images import image_of, image_with
from onebase.listings import listing
from onebase.readback import read_back
from tests.making import full_bundle
from tests.support import WEIRD, raised
from tests.test_bundles import HAND, body
from tests.test_readback import EMPTY, IMAGE, SMALL


class ListingTest(unittest.TestCase):
    def test_by_hand(self):
        self.assertEqual(listing(IMAGE), "\n".join((
            "u main", "0: 14 3  call 5", "2: 6 0  show 0", "4: 21  return",
            "u get", "5: 7 0 0 2  load 0 11", "9: 21  return",
            "u pair", "10: 5 7")))
        self.assertEqual(listing(image_with(HAND, ((0, 0),))).split("\n")[1], "0: 15 0 3  call 6")
        self.assertEqual(listing(image=EMPTY), "")

    def test_slots_tables_data_and_rooms(self):
        self.assertEqual(listing(SMALL), "\n".join((
            "u a", "0: 35 0 12  by call c", "3: 27 0 1 0 9  by load 0 1 d", "8: 22  stop",
            "u a", "9: 0 0 0 0 0 0", "u a", "19: 7", "u a", "20: room 2")))

    def test_lengths_and_positions(self):
        bundle = ("bundle", "", 0, (), (("k", "cells", 64, False),), (), (), (
            ("body", "code", (("u", "main"), ("v", "other")), (
                ("item", 0, "k", 2), ("if", 3, 0), ("item", 1, 1, 2), ("take", 1, 0), ("goto", 3))),
            body("data", (8,) * 64, "d")))
        self.assertEqual(listing(image_of(bundle)).split("\n")[:6], [
            "u main", "0: 29 0 2 0 0 15  by item 0 2 64 k", "6: 18 3 55  if 3 0", "9: 9 1 2 0 0 8  item 1 2 64 23",
            "15: 11 1 63 45  take 1 0", "19: 16 58  jump 15"])

    def test_made_up(self):
        """The cells of all rows stand there, by what parted tells of them."""
        for seed in range(100):
            image = image_of(full_bundle(random.Random(seed), library=seed % 2 == 0))
            rows = [r for r in listing(image).split("\n") if ":" in r]
            parts = {at: (sense, many) for at, sense, many in parted(image[10][:image[11][0]])}
            told = {}
            for r in rows:
                at, _, rest = r.partition(": ")
                cells, _, words = rest.partition("  ")
                told[int(at)] = words
                if not rest.startswith("room"):
                    self.assertEqual([int(c) for c in cells.split()],
                                     list(image[10][int(at):int(at) + len(cells.split())]))
            names = {at: x for at, x, _ in image[7]}
            for at, (sense, many) in parts.items():
                self.assertTrue(told[at].startswith(" ".join(str(x) for x in sense[:-1])))
                last = told[at].split()[-1]
                if sense[0].startswith("by "):
                    self.assertEqual(last, names[at + many + sense[-1]])
                elif sense[0] in ("load", "store", "item", "fill", "take", "pick", "call", "jump", "if"):
                    self.assertEqual(int(last), at + many + sense[-1])

    def test_errors(self):
        for thing in WEIRD + (IMAGE[:12], IMAGE[:10] + ((63,) * 12,) + IMAGE[11:]):
            self.assertEqual(raised(listing, thing)[0], raised(read_back, thing)[0])
            self.assertIn(raised(listing, thing)[0], ("BadImage", "NotLinked"))


if __name__ == "__main__":
    unittest.main()
