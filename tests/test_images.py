import random
import unittest

from onebase.bundles import bundle_of
from onebase.errors import BadBundle, BadLot, Far
from onebase.images import image_of, image_with, linked
from onebase.readback import is_image
from onebase.widths import branches, far, grown
from tests import plainimage
from tests.making import full_bundle, one_bundle, one_goal, whole_line
from tests.support import WEIRD, item, library, made, calls, raised
from tests.test_bundles import HAND, RICH, body
from tests.test_widths import cells, program, Y

END = ("return",)


def code(*rows):
    return body("code", rows)


class ImageWithTest(unittest.TestCase):
    def test_by_hand(self):
        told = ("image", "", 0, (), (), (), (), (), (), (), (14, 3, 6, 0, 21, 7, 0, 0, 2, 21, 5, 7),
                (10, 12, 12, 12, 12, 12), (
                    (0, 5, (("u", "main"),), (0, 2, 4)), (5, 10, (("u", "get"),), (5, 9)),
                    (10, 12, (("u", "pair"),), ())))
        self.assertEqual(image_of(HAND), told)
        self.assertEqual(image_with(HAND, ()), told)
        self.assertEqual(image_with(bundle=HAND, long=())[10], told[10])
        self.assertEqual(image_with(HAND, ((0, 0),))[10], (15, 0, 3, 6, 0, 21, 7, 0, 0, 2, 21, 5, 7))
        self.assertEqual(grown(HAND, ((0, 0),)), ((0, 0),))

    def test_library_by_hand(self):
        """Two codes, a const, a table, four slots, data and a room, each row by its cells."""
        image = image_of(RICH)
        self.assertEqual(image, plainimage.image_with(RICH, grown(RICH)))
        self.assertEqual(image[:6], ("image", "lz", None, ("lo", "le"), RICH[4], (0, image[12][1][0], 0)))
        text = image[11][0]
        self.assertEqual(image[11], (text, text + 2, text + 8, text + 16, text + 18, text + 20))
        self.assertEqual(image[6], (("f", "code", 0, 0), ("r", "data", text + 18, 2)))
        self.assertEqual(image[7], (
            (text + 8, "c", True), (text + 10, "d", False), (text + 12, "k", False), (text + 14, "t", False)))
        self.assertEqual(image[8], ((text + 2, 0), (text + 6, "c")))
        self.assertEqual(len(image[10]), text + 18)
        self.assertEqual(image[10][text:], (1, 2) + (0,) * 14 + (1, 2))
        self.assertEqual([len(rows) for _, _, _, rows in image[12]], [12, 2, 0, 0, 0, 0])
        first = image[12][0][3]
        self.assertEqual(image[9], ((first[2], first[0]),))
        self.assertEqual(image[10][first[1]:first[2]], (35, *divmod(text + 8 - first[2], 64)))
        self.assertEqual(image[10][first[6]:first[7]], (27, 0, 1, *divmod(text + 10 - first[7], 64)))
        self.assertEqual(image[10][first[7]:first[8]], (29, 0, 1, 1, *divmod(text + 12 - first[8], 64)))

    def test_lengths_are_told_modulo_64(self):
        for many in (1, 63, 64):
            bundle = program((("item", 0, 1, 2), END))
            bundle = bundle[:7] + (bundle[7] + (body("data", (9,) * many, "d"),),)
            self.assertEqual(image_of(bundle)[10][:6], (9, 0, 2, many % 64, 0, 1))

    def test_late_slots_are_read_by_calls_tries_and_jumps_alone(self):
        wants = (("x", "code", 0, True),)
        for rows, late in (
            ((("call", "x"), END), True), ((("try", "x", 0), END), True), ((("jump", "x"),), True),
            ((("take", 0, "x"), END), False), ((("call", "x"), ("take", 0, "x"), END), False),
            ((("take", 1, "x"), ("jump", "x")), False),
        ):
            image = image_of(program(rows, wants=wants))
            self.assertEqual([s[1:] for s in image[7]], [("x", late)], rows)
        # A table alone asks for no slot.
        bundle = program((END,), wants=wants)
        bundle = bundle[:7] + (bundle[7] + (body("table", ("x", None), "t"),),)
        self.assertEqual(image_of(bundle)[7:9], ((), ((1, "x"),)))

    def test_distances_at_the_edges(self):
        for many, long in ((31, False), (32, True)):
            bundle = program((("goto", len(cells(many)) + 1),) + cells(many) + (END,), wants=Y)
            image = image_of(bundle)
            self.assertEqual(image[10][0], 17 if long else 16)
            self.assertEqual(image[10][1:3] if long else image[10][1:2], divmod(many, 64) if long else (many,))
        for many, long in ((30, False), (31, True)):
            bundle = program(cells(many) + (("goto", 0),), wants=Y)
            image = image_of(bundle)
            at = image[12][0][3][-1]
            distance = -many - (3 if long else 2)
            self.assertEqual(image[10][at:image[11][0]],
                             (17, *divmod(distance % 4096, 64)) if long else (16, distance % 64))
            if long:
                self.assertEqual(raised(image_with, bundle, ()), ("Far", {"branch": (0, len(cells(many)))}))

    def test_errors(self):
        for thing in WEIRD + (HAND[:7], list(HAND)):
            for long in ((), ((0, 0),), None):
                with self.assertRaises(BadBundle):
                    image_with(thing, long)
            with self.assertRaises(BadBundle):
                image_of(thing)
        for long in WEIRD + (((0, 1),), ((0, 0), (0, 0)), [(0, 0)], ((0, False),), ([0, 0],)):
            if type(long) is not tuple or len(long):
                with self.assertRaises(BadLot):
                    image_with(HAND, long)
        # The first branch that is far is told, ahead of TooGreat.
        tall = program((("call", 2), ("goto", 8)) + cells(36) + (END,), (("call", 0), END), (END,), wants=Y)
        with self.assertRaises(Far) as caught:
            image_with(tall, ())
        self.assertEqual(caught.exception.branch, far(tall, ())[0])

    def test_too_great(self):
        def sized(rooms):
            bundle = program((END,))
            return bundle[:7] + (bundle[7] + tuple(body("room", many, "r") for many in rooms),)

        exact = [64] * 31 + [15]
        self.assertEqual(image_of(sized(exact))[11], (1, 1, 1, 1, 1, 2000))
        for f in (lambda b: image_of(b), lambda b: image_with(b, ())):
            self.assertEqual(raised(f, sized([64] * 31 + [16])), ("TooGreat", {"size": 2001}))
        # A bundle whose distances are more than two cells can tell is refused, too.
        huge = [cells(37 * 6) + (END,) for _ in range(20)] + [(("call", 0), END)]
        huge = program(*huge, wants=Y)
        self.assertEqual(raised(image_of, huge)[0], "TooGreat")
        self.assertEqual(raised(image_with, huge, ())[0], "Far")

    def test_made_up(self):
        for seed in range(400):
            rng = random.Random(seed)
            bundle = one_bundle(rng) if seed % 4 == 0 else full_bundle(rng, library=seed % 2 == 0)
            least = grown(bundle)
            more = grown(bundle, tuple(b for b in branches(bundle) if rng.random() < 0.3))
            for long in (least, more):
                image = image_with(bundle, long)
                self.assertEqual(image, plainimage.image_with(bundle, long))
                self.assertIs(is_image(image), True)
                self.assertTrue(plainimage.is_image(image))
            self.assertEqual(image_of(bundle), image_with(bundle, least))


class LinkedTest(unittest.TestCase):
    def test_linked_is_the_image_of_the_bundle(self):
        many = 0
        for seed in range(300):
            rng = random.Random(seed)
            goal = one_goal(rng)
            line = whole_line(rng, goal)
            told = raised(bundle_of, line, goal)
            if told[0] == "told":
                self.assertEqual(linked(line, goal), image_of(told[1]))
                many += 1
            else:
                self.assertEqual(raised(linked, line=line, goal=goal), told)
        self.assertGreater(many, 200)

    def test_errors(self):
        line = (item(made("u", calls("main", "f"))),)
        for told, line, goal in (
            (("BadLine", {}), list(line), 0), (("BadGoal", {}), line, 0),
            (("NoLibrary", {"name": "lo"}), line + (library("li", ("lo",)),), ("program", "main")),
            (("Missing", {"names": ("f",)}), line, ("program", "main")),
        ):
            self.assertEqual(raised(linked, line, goal), told)
        rooms = tuple(("piece", "r" + chr(97 + k), "room", "open", "strong", 64) for k in range(24))
        great = tuple(item(made("u" + chr(97 + k), *[p[:1] + ("r" + chr(97 + k) + p[1],) + p[2:] for p in rooms]))
                      for k in range(2))
        self.assertEqual(raised(linked, great, ("library", "li")), ("TooGreat", {"size": 24 * 2 * 64}))


if __name__ == "__main__":
    unittest.main()
