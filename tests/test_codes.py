import itertools
import random
import unittest

from onebase.codes import instruction, parted, sense_at
from onebase.errors import BadCells, BadCode, BadIndex, BadSense
from tests.support import WEIRD, near, weird_near

# As the document lists the codes: code, word and parts.
TOLD = """1 set r c; 2 copy r s; 3 plus r s; 4 less r s; 5 ask r; 6 show r; 7 load r D; 8 store r D;
9 item r s L D; 10 fill r s L D; 11 take p D; 12 pick p s L D; 13 alike r p q; 14 call d; 15 call D; 16 jump d;
17 jump D; 18 if r d; 19 if r D; 20 leap p; 21 return; 22 stop; 23 fail e; 27 load r k D; 28 store r k D;
29 item r s L D; 30 fill r s L D; 31 take p D; 32 pick p s L D; 35 call D; 37 jump D"""

VALUES = {
    "r": range(4), "s": range(4), "p": range(2), "q": range(2), "c": range(64), "k": range(64), "e": range(63),
    "L": range(1, 65), "d": range(-32, 32), "D": range(-2048, 2048),
}

CELLS_OF = {
    "L": lambda x: [x if x < 64 else 0],
    "d": lambda x: [x if x >= 0 else 64 + x],
    "D": lambda x: [(x if x >= 0 else 4096 + x) // 64, (x if x >= 0 else 4096 + x) % 64],
}


def forms():
    for part in TOLD.replace("\n", " ").split(";"):
        number, word, *letters = part.split()
        yield int(number), ("by " if int(number) > 26 else "") + word, letters


def some(letter, rng):
    """The edges of a part's values and some between."""
    values = list(VALUES[letter])
    found = {values[0], values[-1], values[len(values) // 2], rng.choice(values), rng.choice(values)}
    return sorted(found | ({-1, 0, 1} & set(values)))


def all_senses(seed):
    rng = random.Random(seed)
    for number, word, letters in forms():
        for parts in itertools.product(*[some(x, rng) for x in letters]):
            cells = [number]
            for letter, part in zip(letters, parts):
                cells += CELLS_OF.get(letter, lambda x: [x])(part)
            yield (word, *parts), tuple(cells)


class InstructionTest(unittest.TestCase):
    def test_all_there_and_back(self):
        for sense, cells in all_senses(1):
            self.assertEqual(instruction(sense, len(cells)), cells)
            self.assertIs(type(instruction(sense, len(cells))), tuple)
            self.assertEqual(sense_at(cells, 0), (sense, len(cells)))
            self.assertEqual(sense_at([63] + list(cells) + [0], 1), (sense, len(cells)))
            for many in set(range(0, 9)) - {len(cells)}:
                # Only branches stand in two widths.
                if sense[0] in ("call", "jump", "if") and many in (len(cells) - 1, len(cells) + 1):
                    continue
                with self.assertRaises(BadSense):
                    instruction(sense, many)

    def test_examples(self):
        self.assertEqual(instruction(("call", -5), 2), (14, 59))
        self.assertEqual(instruction(("call", -5), 3), (15, 63, 59))
        self.assertEqual(instruction(("item", 0, 2, 64, 300), 6), (9, 0, 2, 0, 4, 44))
        self.assertEqual(instruction(sense=("if", 1, -8), many=3), (18, 1, 56))
        self.assertEqual(instruction(("by load", 1, 2, 40), 5), (27, 1, 2, 0, 40))

    def test_limits(self):
        for number, word, letters in forms():
            right = [VALUES[x][0] for x in letters]
            many = 1 + len(letters) + letters.count("D")
            instruction((word, *right), many)
            for at, letter in enumerate(letters):
                for wrong in (VALUES[letter][0] - 1, VALUES[letter][-1] + 1):
                    with self.assertRaises(BadSense):
                        instruction((word, *right[:at], wrong, *right[at + 1:]), many)

    def test_two_widths(self):
        for word, more in (("call", ()), ("jump", ()), ("if", (2,))):
            for distance in range(-2050, 2050):
                for many, low, high in ((2 + len(more), -32, 31), (3 + len(more), -2048, 2047)):
                    try:
                        cells = instruction((word, *more, distance), many)
                        self.assertTrue(low <= distance <= high)
                        self.assertEqual(sense_at(cells, 0), ((word, *more, distance), many))
                    except BadSense:
                        self.assertFalse(low <= distance <= high)

    def test_no_sense(self):
        right = {sense: len(cells) for sense, cells in all_senses(2)}
        words = {sense[0] for sense in right}
        self.assertNotIn("goto", words)
        for sense in (("set", 1, 2), ("item", 0, 2, 64, 300), ("call", -5), ("by jump", 7), ("stop",), ("fail", 62)):
            for other, by_kind in near(sense):
                if by_kind:
                    with self.assertRaises(BadSense):
                        instruction(other, right.get(sense, len(sense)))
            for other in weird_near(sense):
                for many in range(1, 7):
                    try:
                        cells = instruction(other, many)
                    except BadSense:
                        continue
                    self.assertEqual(sense_at(cells, 0), (other, many))
                    self.assertEqual([type(x) for x in other], [str] + [int] * (len(other) - 1))
        for thing in WEIRD + (("goto", 3), ("try", 3), ("room", 3), ["stop"], ("stop",) * 2):
            for many in (1, 2, 3):
                with self.assertRaises(BadSense):
                    instruction(thing, many)
        for many in (True, 1.0, None, "1", 0, -1, 2):
            with self.assertRaises(BadSense):
                instruction(("stop",), many)


class SenseAtTest(unittest.TestCase):
    def test_none(self):
        codes = {number for number, _, _ in forms()}
        for number in range(64):
            if number not in codes:
                self.assertIsNone(sense_at((number, 0, 0, 0, 0, 0, 0), 0))
        for sense, cells in all_senses(3):
            for many in range(1, len(cells)):
                self.assertIsNone(sense_at(cells[:many], 0))

    def test_parts_that_are_none(self):
        for number, word, letters in forms():
            many = 1 + len(letters) + letters.count("D")
            at = 1
            for letter in letters:
                greatest = {"r": 3, "s": 3, "p": 1, "q": 1, "e": 62}.get(letter, 63)
                for cell in range(64):
                    cells = [number] + [0] * (many - 1)
                    cells[at] = cell
                    self.assertEqual(sense_at(cells, 0) is None, cell > greatest)
                at += 2 if letter == "D" else 1

    def test_errors(self):
        for thing in WEIRD:
            if type(thing) in (tuple, list) and all(type(x) is int and 0 <= x < 64 for x in thing):
                continue
            with self.assertRaises(BadCells):
                sense_at(thing, 0)
            with self.assertRaises(BadCells):
                sense_at(thing, None)
        for at in (-1, 3, True, 0.0, None, "0", (0,)):
            with self.assertRaises(BadIndex):
                sense_at((22, 22, 22), at)
        for cells in ((), []):
            with self.assertRaises(BadIndex):
                sense_at(cells, 0)
        for cells in ((22, 64), (22, -1), (22, True), (22, 1.0), (22, None), (22, "a"), "a", b"\x16", range(3)):
            with self.assertRaises(BadCells):
                sense_at(cells, 9)

    def test_stays(self):
        cells = [14, 59, 22]
        sense_at(cells=cells, at=0)
        parted(cells)
        self.assertEqual(cells, [14, 59, 22])


class PartedTest(unittest.TestCase):
    def test_rows_one_behind_another(self):
        rng = random.Random(4)
        senses = list(all_senses(5))
        self.assertEqual(parted(()), ())
        for _ in range(300):
            some = [rng.choice(senses) for _ in range(rng.randrange(1, 9))]
            cells, told = [], []
            for sense, part in some:
                told.append((len(cells), sense, len(part)))
                cells += part
            self.assertEqual(parted(cells), tuple(told))
            self.assertEqual(parted(cells=tuple(cells)), tuple(told))
            # Cut within the last one, or with a cell that begins none.
            if len(some[-1][1]) > 1:
                with self.assertRaises(BadCode) as e:
                    parted(cells[:-1])
                self.assertEqual(e.exception.at, told[-1][0])
            with self.assertRaises(BadCode) as e:
                parted(cells + [rng.choice((0, 24, 25, 26, 33, 34, 36, 38, 63)), 1, 1, 1, 1, 1])
            self.assertEqual(e.exception.at, len(cells))

    def test_first_of_several(self):
        for cells, at in (((0,), 0), ((22, 1, 4, 0, 0), 1), ((21, 23, 63, 0), 1), ((6, 0, 14), 2)):
            with self.assertRaises(BadCode) as e:
                parted(cells)
            self.assertEqual(e.exception.at, at)

    def test_no_cells(self):
        for thing in (None, "", 0, {}, {0}, range(2), (64,), [-1], (True,), (22, None), b"\x16"):
            with self.assertRaises(BadCells):
                parted(thing)

    def test_none_begins_another(self):
        cells = {part for _, part in all_senses(6)}
        for part in cells:
            for many in range(1, len(part)):
                self.assertNotIn(part[:many], cells)

    def test_readings_that_meet_stay_together(self):
        rng = random.Random(7)
        for _ in range(200):
            cells = [rng.choice((1, 2, 5, 6, 14, 21, 22, 0, 3, 7)) for _ in range(30)]
            spots = []
            for first in range(3):
                at, seen = first, []
                while at < len(cells) and sense_at(cells, at):
                    seen.append(at)
                    at += sense_at(cells, at)[1]
                spots.append(seen)
            for one, other in itertools.combinations(spots, 2):
                for at in set(one) & set(other):
                    self.assertEqual(one[one.index(at):], other[other.index(at):])


if __name__ == "__main__":
    unittest.main()
