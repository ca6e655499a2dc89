import random
import unittest

from onebase.traces import body_at, lies_in
from tests import plain, plainimage, worlds
from tests.plain import apart, name, need, number, tuple_
from tests.support import WEIRD, check_judge, near, raised, weird_near
from tests.test_readback import IMAGE


@plain.judge
def valid_frame(frame, many):
    tuple_(frame, many, many)
    need(type(frame[0]) is str)
    if frame[0] != "":
        name(frame[0])
    number(frame[-1], 0, 10 ** 40)
    if many == 4:
        name(frame[1])
        name(frame[2])
    else:
        for pair in tuple_(frame[1]):
            for x in tuple_(pair, 2, 2):
                name(x)
        apart(frame[1])


def valid(trace, lots):
    if type(trace) is not tuple or type(lots) is not tuple or len(trace) != len(lots):
        return False
    if not all(valid_frame(f, 4) for f in trace) or not all(valid_frame(f, 3) for f in lots):
        return False
    return all(f[0] == g[0] and f[3] == g[2] and f[1:3] in g[1] for f, g in zip(trace, lots))


class BodyAtTest(unittest.TestCase):
    def check(self, image):
        for position in range(image[11][5]):
            told = None
            for start, end, lot, rows in image[12]:
                if start <= position < end and end <= image[11][0]:
                    told = (lot, [n for n, row in enumerate(rows) if row <= position][-1])
            self.assertEqual(body_at(image, position), told)

    def test_linked_images(self):
        for seed in range(40):
            program, libraries = worlds.images_for(worlds.one_world(random.Random(seed)))
            for image in (program,) + libraries:
                self.check(image)

    def test_other_images(self):
        for seed in range(100):
            program, libraries = worlds.one_scope(random.Random(seed))
            for image in (program,) + libraries:
                self.check(image)

    def test_by_hand(self):
        text = IMAGE[11][0]
        for position, told in ((0, True), (text - 1, True), (text, False), (IMAGE[11][5] - 1, False)):
            self.assertIs(body_at(image=IMAGE, position=position) is not None, told)

    def test_wrong_positions(self):
        size = IMAGE[11][5]
        for thing in WEIRD + (-1, size, size + 1, True, 0.0, "0"):
            if not (type(thing) is int and 0 <= thing < size):
                self.assertEqual(raised(body_at, IMAGE, thing), ("BadPosition", {}))
        empty = ("image", "lo", None, (), (), (), (), (), (), (), (), (0,) * 6, ())
        for thing in (0, -1, 1, None):
            self.assertEqual(raised(body_at, empty, thing), ("BadPosition", {}))

    def test_wrong_images(self):
        for thing in WEIRD:
            self.assertEqual(raised(body_at, thing, None), ("BadImage", {}))
        for other, _ in list(near(IMAGE))[::7]:
            told = raised(body_at, other, -1)
            self.assertEqual(told[0], "BadPosition" if plainimage.is_image(other) else "BadImage")


class LiesInTest(unittest.TestCase):
    TRACE = (("", "u", "f", 0), ("li", "v", "g", 39))
    LOTS = (("", (("u", "f"),), 0), ("li", (("v", "h"), ("v", "g"), ("u", "g")), 39))

    def test_by_hand(self):
        self.assertIs(lies_in(self.TRACE, self.LOTS), True)
        self.assertIs(lies_in(lots=self.LOTS, trace=self.TRACE), True)
        self.assertIs(lies_in((), ()), True)
        for trace, lots in (
                (self.TRACE, self.LOTS[:1]), (self.TRACE[:1], self.LOTS), (self.TRACE[::-1], self.LOTS), (self.LOTS, self.TRACE),
                (self.TRACE, ()), ((), self.LOTS), ((("", "u", "f", 0),), (("", (), 0),)),
                ((("li", "u", "f", 0),), (("", (("u", "f"),), 0),)), ((("", "u", "f", 1),), (("", (("u", "f"),), 0),)),
                ((("", "u", "f", 0),), (("", (("f", "u"),), 0),)), ((("", "f", "u", 0),), (("", (("u", "f"),), 0),))):
            self.assertIs(lies_in(trace, lots), False)

    def test_any_values(self):
        for thing in WEIRD:
            self.assertIs(lies_in(thing, self.LOTS), False)
            self.assertIs(lies_in(self.TRACE, thing), False)
            for other in WEIRD:
                self.assertIs(lies_in(thing, other), type(thing) is tuple and type(other) is tuple and not thing and not other)
        check_judge(self, lambda x: lies_in(x, self.LOTS), lambda x: valid(x, self.LOTS), [self.TRACE])
        check_judge(self, lambda x: lies_in(self.TRACE, x), lambda x: valid(self.TRACE, x), [self.LOTS])
        for other in weird_near((self.TRACE, self.LOTS)):
            if type(other) is tuple and len(other) == 2:
                self.assertIs(lies_in(*other), valid(*other))


if __name__ == "__main__":
    unittest.main()
