import random
import unittest

from onebase.errors import BadImage, NotLinked
from onebase.images import image_of, image_with
from onebase.readback import is_image, long_in, read_back
from onebase.widths import branches, grown
from tests import plainimage
from tests.making import full_bundle, one_bundle
from tests.support import WEIRD, check_judge, near, raised
from tests.test_bundles import HAND, RICH, body
from tests.test_widths import program

IMAGE = image_of(HAND)
LIBRARY = image_of(RICH)
EMPTY = ("image", "li", None, (), (), (), (), (), (), (), (), (0,) * 6, ())

# One of each part, but small: so all values near it are gone through.
SMALL = image_of(("bundle", "", 0, ("lo",), (("c", "code", 0, True), ("d", "data", 2, False)), (0,), (("f", 1),), (
    body("code", (("try", "c", 1), ("load", 0, "d", 1), ("stop",))), body("table", (0, None, "c")),
    body("data", (7,)), body("room", 2))))


class IsImageTest(unittest.TestCase):
    def test_images(self):
        seen = check_judge(self, is_image, plainimage.is_image, (SMALL, EMPTY, IMAGE))
        self.assertGreater(seen[True], 100)

    def test_a_library_and_some_others(self):
        self.assertIs(is_image(LIBRARY), True)
        for other, by_kind in near(LIBRARY):
            told = is_image(thing=other)
            self.assertIs(told, plainimage.is_image(other), other)
            self.assertFalse(told and by_kind)

    def with_part(self, at, part, image=IMAGE):
        return image[:at] + (part,) + image[at + 1:]

    def test_edges(self):
        pair = IMAGE[12][0][2]
        for at, part, right in (
            (2, 9, True), (2, 10, False), (5, (9, 0, 0), True), (5, (10,), False), (5, (-1,), False),
            (6, (("f", "code", 0, 0),), True), (6, (("f", "data", 11, 64),), True), (6, (("f", "data", 12, 1),), False),
            (6, (("f", "data", 0, 65),), False), (6, (("f", "code", 0, 1),), False), (6, (("f", "room", 0, 1),), False),
            (9, ((10, 10),), True), (9, ((0, 0), (10, 3)), True), (9, ((11, 0),), False), (9, ((0, 11),), False),
            (9, ((3, 0), (3, 1)), False), (9, ((4, 0), (3, 1)), False),
            (11, (10, 12, 12, 12, 12, 12), True), (11, (10, 11, 12, 12, 12, 12), True),
            (11, (10, 12, 12, 12, 12, 2000), False), (11, (10, 12, 12, 12, 12), False),
            (12, ((0, 10, pair, (0, 9)), (10, 12, pair, ())), True), (12, ((0, 12, pair, (0,)),), False),
            (12, ((0, 10, pair, (0, 10)), (10, 12, pair, ())), False), (12, ((0, 10, pair, ()), (10, 12, pair, ())), False),
            (12, ((0, 10, pair, (1,)), (10, 12, pair, ())), False), (12, ((0, 10, pair, (0,)), (10, 12, pair, (10,))), False),
            (12, ((0, 10, pair, (0,)), (10, 11, pair, ())), False), (12, ((0, 10, pair, (0,)), (11, 12, pair, ())), False),
            (12, ((0, 10, pair + pair, (0,)), (10, 12, pair, ())), False), (12, ((0, 10, (), (0,)), (10, 12, pair, ())), False),
        ):
            self.assertIs(is_image(self.with_part(at, part)), right, (at, part))
            self.assertEqual(plainimage.is_image(self.with_part(at, part)), right)
        for size, right in ((2000, True), (2001, False)):
            rest = ((0, size, pair, ()),)
            self.assertIs(is_image(EMPTY[:11] + ((0, 0, 0, 0, 0, size), rest)), right)
        self.assertIs(is_image(EMPTY[:11] + ((-1, 0, 0, 0, 0, 0), ())), False)

    def test_what_is_read_back_is_an_image_all_the_more(self):
        # An image of no bundle may have the form of one.
        odd = self.with_part(10, (63,) * 12)
        self.assertIs(is_image(odd), True)
        self.assertEqual(raised(read_back, odd), ("NotLinked", {}))


class ReadBackTest(unittest.TestCase):
    def test_by_hand(self):
        for long in ((), ((0, 0),)):
            image = image_with(HAND, long)
            self.assertEqual(read_back(image), HAND)
            self.assertEqual(long_in(image=image), long)
        self.assertEqual(read_back(image=LIBRARY), RICH)
        self.assertEqual(long_in(LIBRARY), grown(RICH))
        self.assertEqual(read_back(EMPTY), ("bundle", "li", None, (), (), (), (), ()))

    def test_made_up(self):
        """Each image of a bundle tells the bundle and the lot, whichever holds."""
        for seed in range(400):
            rng = random.Random(seed)
            bundle = one_bundle(rng) if seed % 4 == 0 else full_bundle(rng, library=seed % 2 == 0)
            long = grown(bundle, tuple(b for b in branches(bundle) if rng.random() < 0.3))
            image = image_with(bundle, long)
            self.assertEqual(read_back(image), bundle)
            self.assertEqual(long_in(image), long)
            self.assertEqual(len(image[10]) - len(image_of(bundle)[10]), len(long) - len(grown(bundle)))

    def test_bad_image(self):
        for f in (read_back, long_in):
            for thing in WEIRD:
                with self.assertRaises(BadImage):
                    f(thing)
        for image in (SMALL, IMAGE):
            for other, _ in near(image):
                if not plainimage.is_image(other):
                    with self.assertRaises(BadImage):
                        read_back(other)

    def test_values_near_images(self):
        """What is read back lays out to the very image; all else is not linked."""
        seen = {"told": 0, "NotLinked": 0}
        for image in (SMALL, IMAGE):
            for other, _ in near(image):
                if plainimage.is_image(other):
                    told, bundle = raised(read_back, other)
                    seen[told] += 1
                    if told == "told":
                        self.assertEqual(plainimage.image_with(bundle, long_in(other)), other)
                    else:
                        with self.assertRaises(NotLinked):
                            long_in(other)
        self.assertGreater(min(seen.values()), 50)

    def test_each_cell_counts(self):
        """With one cell otherwise an image tells another bundle, or none."""
        for image, bundle in ((IMAGE, HAND), (SMALL, read_back(SMALL)), (LIBRARY, RICH)):
            for at in range(len(image[10])):
                for c in range(64):
                    if c != image[10][at]:
                        other = image[:10] + (image[10][:at] + (c,) + image[10][at + 1:],) + image[11:]
                        told, made = raised(read_back, other)
                        if told == "told":
                            self.assertNotEqual(made, bundle)
                            self.assertEqual(plainimage.image_with(made, long_in(other)), other)
                        else:
                            self.assertEqual(told, "NotLinked")

    def test_what_holds_no_more_is_not_linked(self):
        """A short branch that aims too far cannot be told; one that could be short may be long."""
        bundle = program((("goto", 1), ("stop",)))
        self.assertEqual(image_with(bundle, ((0, 0),))[10], (17, 0, 0, 22))
        self.assertEqual(read_back(image_with(bundle, ((0, 0),))), bundle)
        # A jump that leads to its own body is read as a goto.
        jump = image_of(program((("goto", 0),)))
        self.assertEqual(read_back(jump), program((("goto", 0),)))


if __name__ == "__main__":
    unittest.main()
