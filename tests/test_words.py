import unittest

from onebase.words import BARRED, KEPT, is_name
from tests import plain
from tests.support import WEIRD

TOLD = (
    "alike, archive, ask, call, code, const, copy, data, fail, fill, goto, hidden, if, item, jump, leap, "
    "less, library, line, load, none, open, over, own, pick, plus, program, return, room, round, set, show, "
    "spare, start, stop, store, table, take, try, unit, weak"
)


class WordsTest(unittest.TestCase):
    def test_kept(self):
        self.assertIs(type(KEPT), tuple)
        self.assertEqual(KEPT, tuple(TOLD.split(", ")))
        self.assertEqual(tuple(BARRED), KEPT)

    def test_names(self):
        for name in ("a", "z", "main", "abcdefgh", "zzzzzzzz", "opens", "ope", "cells", "strong", "piece"):
            self.assertIs(is_name(name), True, name)

    def test_no_names(self):
        for thing in ("", "abcdefghi", "A", "aB", "a1", "a_", "a ", " a", "a\n", "\u00e4", "\u0430", "a-b", "`", "{"):
            self.assertIs(is_name(thing), False, thing)
        for word in KEPT:
            self.assertIs(is_name(word), False, word)
            self.assertEqual(is_name(word + "x"), len(word) < 8)

    def test_any_value(self):
        for thing in WEIRD + tuple("a" * k for k in range(12)):
            self.assertIs(is_name(thing), plain.is_name(thing))
            self.assertIs(is_name(thing=thing), plain.is_name(thing))


if __name__ == "__main__":
    unittest.main()
