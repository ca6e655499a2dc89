import itertools
import random
import unittest

from onebase.editions import apart, exchanged, fits, is_apart, is_shelf, may_replace, shelf_begins, shelf_bound
from onebase.lines import is_card
from onebase.loading import beginnings, bindings, card_of, is_let, scope
from tests import plain, plainlink, worlds
from tests.plain import need, needs_, told_piece, tuple_, wants_, word
from tests.plainlink import Told
from tests.support import WEIRD, card, check_judge, near, raised, weird_near
from tests.test_loading import image

# A second reading, of cards and shelves known to be right.


def first(needs=(), exports=(), wants=()):
    return card("", needs, exports, wants)


@plain.judge
def program_card(c):
    tuple_(c, 5, 5)
    word(c[0], "card")
    word(c[1], "")
    needs_(c[2], "")
    for export in tuple_(c[3]):
        told_piece(*tuple_(export, 3, 3))
    plain.ascending([export[0] for export in c[3]])
    wants_(c[4])


@plain.judge
def shelf_(thing):
    need(len(tuple_(thing, 1)) > 0)
    program_card.need(thing[0])
    for c in thing[1:]:
        plain.is_card.need(c)
    need(tuple(c[1] for c in thing[1:]) == thing[0][2])
    for c in thing[1:]:
        need(set(c[2]) <= set(thing[0][2]))


def bound(shelf):
    found = []
    for c in shelf:
        held = []
        for x, sort, many, spare in c[4]:
            told = [(k, e) for k, other in enumerate(shelf) for e in other[3] if e[0] == x][:1]
            if not told and not spare:
                raise Told("NotLet", image=c[1], name=x, why="lacks")
            if told and told[0][1][1] != sort:
                raise Told("NotLet", image=c[1], name=x, why="sort")
            if told and told[0][1][2] != many:
                raise Told("NotLet", image=c[1], name=x, why="length")
            held.append(told[0][0] if told else None)
        found.append(tuple(held))
    return tuple(found)


def begins(shelf):
    names = [c[1] for c in shelf]
    found, seen = [], []

    def walk(k):
        if k not in seen:
            seen.append(k)
            for x in shelf[k][2]:
                walk(names.index(x))
            found.append(k)
    walk(0)
    return tuple(found)


def fitting(shelf, new):
    """Whether the card fits, of a shelf that is let."""
    at = [c[1] for c in shelf].index(new[1])
    other = shelf[:at] + (new,) + shelf[at + 1:]
    if not shelf_(other) or plainlink.outcome(bound, other)[0] != "told" or begins(other) != begins(shelf):
        return False
    old = {w[0]: k for w, k in zip(shelf[at][4], bound(shelf)[at])}
    for k in range(len(shelf)):
        if k != at and bound(shelf)[k] != bound(other)[k]:
            return False
    return all(old.get(w[0], k) == k for w, k in zip(new[4], bound(other)[at]))


def shows(old, new, thing):
    return (shelf_(thing) and old in thing[1:] and plainlink.outcome(bound, thing)[0] == "told"
            and not fitting(thing, new))


# Made-up cards and shelves.

WORTH = (("code", 0), ("data", 1), ("data", 2))


def one_card(rng, name, names, most=3):
    def told(x):
        return (x,) + rng.choice(WORTH[:2] if rng.random() < 0.8 else WORTH)
    exports = tuple(told(x) for x in "abc" if rng.random() < 0.3)
    own = {e[0]: e for e in exports}
    wants = tuple((own.get(x) or told(x)) + (rng.random() < 0.5,) for x in "abc" if rng.random() < 0.35)
    needs = rng.sample(names, rng.randrange(min(len(names), most) + 1)) if names else []
    return (first if name == "" else lambda *parts: card(name, *parts))(tuple(needs), exports, wants)


def one_shelf(rng, most=3):
    names = rng.sample(["li", "lo", "la"], rng.randrange(most + 1))
    program = one_card(rng, "", [])
    return (first(tuple(names), *program[3:]),) + tuple(
        one_card(rng, x, [y for y in names if y != x]) for x in names)


def let_shelf(rng):
    while True:
        shelf = one_shelf(rng)
        if len(shelf) > 1 and plainlink.outcome(bound, shelf)[0] == "told":
            return shelf


def edition(rng, old):
    """A card near this one."""
    _, name, needs, exports, wants = old
    for _ in range(rng.randrange(1, 3)):
        what = rng.randrange(5)
        if what == 0:
            wants = tuple(w for w in wants if rng.random() < 0.6)
        elif what == 1:
            wants = tuple(w[:3] + (rng.random() < 0.5,) for w in wants)
        elif what == 2:
            other = one_card(rng, "zz", [])
            exports, wants = (other[3], wants) if rng.random() < 0.5 else (exports, other[4])
        elif what == 3:
            needs = tuple(rng.sample(needs, len(needs)))
        else:
            needs = rng.choice((needs[:-1], needs, needs + ("lz",)[:len(needs) < 3 and "lz" not in needs]))
    return card(name, needs, exports, wants)


def is_edition(c):
    own = {e[0]: e for e in c[3]}
    return len(c[2]) <= 3 and all(own.get(w[0], w[:3]) == w[:3] for w in c[4])


LI = card("li", ("lo",), (("f", "code", 0),), (("f", "code", 0, False), ("g", "data", 2, True)))
LO = card("lo", (), (("g", "data", 2),), (("f", "code", 0, True),))
SHELF = (first(("li", "lo"), (), (("f", "code", 0, False),)), LI, LO)


class ShelfTest(unittest.TestCase):
    def test_near_right_ones(self):
        seen = check_judge(self, is_shelf, shelf_, [SHELF, (first(),), (first(("lo",)), card("lo"))])
        self.assertGreater(seen[True], 100)

    def test_by_hand(self):
        for thing, right in (
                ((first(), LO), False), ((first(("lo", "li")), LI, LO), False), ((first(("li",)), LI), False),
                ((first(("lo",)), LO), True), ((card("p", ("lo",)), LO), False), ((first(("lo",)), LO, LO), False),
                ((LO,), False), ((first(("lo",)),), False), ((first(("li", "lo")), LI, LO, first()), False),
                # Needs may go round.
                ((first(("li", "lo")), LI, card("lo", ("li",))), True),
                # It need not be let.
                ((first((), (), (("x", "code", 0, False),)),), True)):
            self.assertIs(is_shelf(thing), right)
        self.assertIs(is_shelf(thing=list(SHELF)), False)

    def test_bound_and_begins(self):
        self.assertEqual(shelf_bound(SHELF), ((1,), (1, 2), (1,)))
        self.assertEqual(shelf_begins(SHELF), (2, 1, 0))
        self.assertEqual(shelf_begins(shelf=(first(("li", "lo")), LI, card("lo", ("li",)))), (2, 1, 0))
        self.assertEqual(shelf_begins((first(("lo", "li")), LO, LI)), (1, 2, 0))
        self.assertEqual(shelf_bound((first(("lo",)), LO)), ((), (None,)))
        self.assertEqual(shelf_bound(shelf=(first(),)), ((),))
        for wants, why in (((("x", "code", 0, False),), "lacks"), ((("g", "code", 0, True),), "sort"),
                           ((("g", "data", 1, True),), "length")):
            told = ("NotLet", {"image": "", "name": wants[0][0], "why": why})
            self.assertEqual(raised(shelf_bound, (first(("lo",), (), wants), LO)), told)
            self.assertEqual(raised(fits, (first(("lo",), (), wants), LO), LO), told)
        for thing in WEIRD + ((first(), LO),):
            for f, more in ((shelf_bound, ()), (shelf_begins, ()), (fits, (None,)), (fits, (LO,))):
                self.assertEqual(raised(f, thing, *more), ("BadShelf", {}))

    def test_drawn_shelves(self):
        for seed in range(2000):
            shelf = one_shelf(random.Random(seed))
            self.assertTrue(is_shelf(shelf))
            self.assertEqual(raised(shelf_bound, shelf), plainlink.outcome(bound, shelf))
            self.assertEqual(shelf_begins(shelf), begins(shelf))

    def test_as_told_of_scopes(self):
        told = 0
        for seed in range(300):
            program, libraries = worlds.one_scope(random.Random(seed), 0.05, 0)
            shelf = tuple(card_of(i) for i in scope(program, libraries))
            self.assertTrue(is_shelf(shelf))
            one, other = raised(shelf_bound, shelf), raised(bindings, program, libraries)
            if one[0] == "told":
                self.assertEqual(one[1], tuple(tuple(p and p[0] for p in held) for held in other[1]))
                told += 1
            else:
                self.assertEqual(one, other)
            order = [k for k in shelf_begins(shelf) for _ in scope(program, libraries)[k][5]] + [0]
            self.assertEqual(order, [k for k, _ in beginnings(program, libraries)])
        self.assertGreater(told, 50)


class FitsTest(unittest.TestCase):
    def test_by_hand(self):
        for new, right in (
                (LI, True), (card("li", ("lo",), LI[3], ()), True), (card("li", (), LI[3], LI[4]), False),
                (card("li", ("zz",), LI[3], LI[4]), False), (card("li", ("lo",), (), LI[4]), False),
                # li's want of f, which only li exports, is not let any more.
                (card("li", ("lo",), (("g", "data", 2),), LI[4]), False),
                (card("li", ("lo",), (("f", "data", 1),), ()), False),
                # It takes g over from lo: li's own want of g is bound otherwise.
                (card("li", ("lo",), LI[3] + (("g", "data", 2),), LI[4]), False),
                # But if nobody wanted g before, it may.
                (card("li", ("lo",), LI[3] + (("h", "data", 2),), LI[4]), True),
                (card("li", ("lo",), LI[3], LI[4] + (("h", "code", 0, True),)), True),
                (card("li", ("lo",), LI[3], LI[4] + (("h", "code", 0, False),)), False),
                (card("li", ("lo",), LI[3], (("g", "data", 1, True),)), False)):
            self.assertIs(fits(SHELF, new), right, new)
            self.assertIs(fitting(SHELF, new), right, new)
        # Which way they begin: lo ahead of li only if li needs it.
        shelf = (first(("li", "lo")), card("li", ("lo",)), card("lo"))
        self.assertIs(fits(shelf, card("li")), False)
        self.assertIs(fits(card=card("lo", ("li",)), shelf=shelf), True)
        self.assertIs(fits((first(("lo", "li")), card("lo"), card("li", ("lo",))), card("li")), True)

    def test_wrong_cards(self):
        for thing in WEIRD + (card("zz"), first(("li", "lo")), SHELF[0], list(LI)):
            self.assertEqual(raised(fits, SHELF, thing), ("BadCard", {}))
        for other, _ in near(LI):
            if not is_card(other) or other[1] not in ("li", "lo"):
                self.assertEqual(raised(fits, SHELF, other), ("BadCard", {}))
        wrong = (first(("lo",), (), (("x", "code", 0, False),)), LO)
        self.assertEqual(raised(fits, wrong, LI), ("BadCard", {}))
        self.assertEqual(raised(fits, wrong, LO)[0], "NotLet")

    def test_drawn(self):
        seen = {True: 0, False: 0}
        for seed in range(2500):
            rng = random.Random(seed)
            shelf = let_shelf(rng)
            new = edition(rng, rng.choice(shelf[1:]))
            told = fits(shelf, new)
            self.assertIs(told, fitting(shelf, new))
            seen[told] += 1
        self.assertGreater(min(seen.values()), 300)


class EditionsTest(unittest.TestCase):
    OLD = card("li", (), (("fa", "code", 0),), (("da", "data", 2, False),))

    def test_example_by_hand(self):
        """[82]"""
        new = card("li", (), (("fa", "code", 0),), ())
        self.assertIs(may_replace(self.OLD, new), True)
        self.assertIs(may_replace(old=new, new=self.OLD), False)
        self.assertIsNone(apart(self.OLD, new))
        self.assertIs(is_apart(new, self.OLD, (first(("li",)), new)), True)
        shelf = apart(old=new, new=self.OLD)
        self.assertEqual(len(shelf), 2)
        self.assertIs(is_apart(old=new, new=self.OLD, thing=shelf), True)

    def test_what_must_be_equal(self):
        old = card("li", ("la", "lo"), (("f", "code", 0),), (("d", "data", 2, False), ("f", "code", 0, True), ("g", "code", 0, True)))
        _, name, needs, exports, wants = old
        for new, right in (
                (old, True), (card(name, needs, exports), True), (card(name, ("lo", "la"), exports, wants), False),
                (card(name, ("la",), exports, wants), False), (card(name, needs + ("lu",), exports, wants), False),
                (card(name, needs, (), wants), False), (card(name, needs, (("e", "code", 0),) + exports, wants), False),
                (card(name, needs, (("f", "data", 1),), wants[:1]), False),
                # Both export f: so it may be wanted though it was a spare; d may become a spare, g no want.
                (card(name, needs, exports, (wants[0][:3] + (True,), ("f", "code", 0, False)) + wants[2:]), True),
                (card(name, needs, exports, wants[:2] + (("g", "code", 0, False),)), False),
                (card(name, needs, exports, wants[:1] + (("e", "code", 0, True),)), False),
                (card(name, needs, exports, (("d", "data", 1, False),)), False),
                (card(name, needs, exports, (("d", "cells", 2, False),)), False)):
            self.assertIs(may_replace(old, new), right, new)
            shelf = apart(old, new)
            self.assertIs(shelf is None, right)
            if shelf is not None:
                self.assertTrue(shows(old, new, shelf))
                self.assertEqual(len(shelf), 4)

    def test_three_cards_if_nothing_is_needed(self):
        """An export more, of a name that the old one wants: only an export behind it shows this."""
        old = card("a", (), (), (("x", "data", 2, False),))
        for new in (card("a", (), (("x", "data", 2),), (("x", "data", 2, False),)), card("a", (), (("x", "code", 0),))):
            self.assertIs(may_replace(old, new), False)
            shelf = apart(old, new)
            self.assertEqual(len(shelf), 3)
            self.assertTrue(is_apart(old, new, shelf))
            self.assertTrue(shows(old, new, shelf))

    def test_wrong_ones(self):
        bad = (card("li", ("la", "lb", "lc", "ld")), card("li", (), (("f", "code", 0),), (("f", "data", 1, True),)),
               card("li", (), (("f", "data", 2),), (("f", "data", 1, True),)), first(("li",)), list(self.OLD)) + WEIRD
        for f, more in ((may_replace, ()), (apart, ()), (is_apart, (None,))):
            for thing in bad:
                self.assertEqual(raised(f, thing, self.OLD, *more), ("BadCard", {}))
                self.assertEqual(raised(f, self.OLD, thing, *more), ("BadCard", {}))
                self.assertEqual(raised(f, card("lo"), thing, *more), ("BadCard", {}))
            self.assertEqual(raised(f, self.OLD, card("lo"), *more), ("OtherName", {}))
            self.assertEqual(raised(f, card("li", ("la", "lb", "lc")), card("li"), *more)[0], "told")
            self.assertEqual(raised(f, card("li", (), (("f", "code", 0),), (("f", "code", 0, True),)), card("li"), *more)[0], "told")

    def test_any_value_for_a_shelf(self):
        old = card("li", ("lo",), (("f", "code", 0),), (("g", "code", 0, True),))
        new = card("li", ("lo",), (), (("g", "code", 0, False),))
        shelf = (first(("lo", "li"), (("g", "code", 0),), (("f", "code", 0, False),)), card("lo"), old)
        seen = {True: 0, False: 0}
        for other, _ in near(shelf):
            told = is_apart(old, new, other)
            self.assertIs(told, shows(old, new, other), other)
            seen[told] += 1
        self.assertGreater(min(seen.values()), 20)
        for other in itertools.chain(WEIRD, weird_near(shelf)):
            self.assertIs(is_apart(old, new, other), shows(old, new, other))
        self.assertIs(is_apart(old, new, shelf), True)
        # Of any length; the old card must be in it, and it must be let.
        longer = (first(("lo", "zz", "li"), *shelf[0][3:]), card("lo"), card("zz", ("li",)), old)
        self.assertIs(is_apart(old, new, longer), True)
        self.assertIs(is_apart(old, new, (first(("lo", "li")), card("lo"), card("li", ("lo",)))), False)
        self.assertIs(is_apart(old, new, (first(("lo",)), card("lo"))), False)
        self.assertIs(is_apart(old, new, (first(("lo", "li"), (), (("h", "code", 0, False),)), card("lo"), old)), False)
        self.assertIs(is_apart(old, old, shelf), False)

    def test_heart(self):
        """What may replace fits into all drawn shelves; of what may not a shelf of as few cards as can be shows it."""
        seen = {True: 0, False: 0, 3: 0}
        for seed in range(3000):
            rng = random.Random(seed)
            old = one_card(rng, "li", ["la", "lb"][:rng.randrange(3)])
            new = edition(rng, old)
            if not is_edition(new):
                self.assertEqual(raised(may_replace, old, new), ("BadCard", {}))
                continue
            told = may_replace(old, new)
            seen[told] += 1
            shelf = apart(old, new)
            self.assertIs(shelf is None, told, (old, new))
            if shelf is None:
                for _ in range(6):
                    self.assertFalse(shows(old, new, self.shelf_with(rng, old, rng.randrange(3))), (old, new))
                continue
            self.assertTrue(shows(old, new, shelf), (old, new))
            self.assertTrue(is_apart(old, new, shelf))
            if len(shelf) > 2 + len(old[2]):
                self.assertEqual((len(shelf), old[2]), (3, ()))
                seen[3] += 1
                for _ in range(60):
                    self.assertFalse(shows(old, new, self.shelf_with(rng, old, 0)), (old, new))
        self.assertGreater(min(seen[True], seen[False]), 500)
        self.assertGreater(seen[3], 0)

    def shelf_with(self, rng, old, more):
        """A shelf with the card, what it needs, and so many others; let or not."""
        names = ["li"] + list(old[2]) + ["lu", "lw"][:more]
        rng.shuffle(names)
        program = one_card(rng, "", [])
        exports = {e[0]: e for e in program[3]}
        for x, sort, many, spare in old[4]:
            if rng.random() < 0.8:
                exports[x] = (x, sort, many)
        made = [one_card(rng, x, [y for y in names if y != x]) if x != "li" else old for x in names]
        if rng.random() < 0.5:
            made = [c if c[1] == "li" else card(c[1], c[2], c[3] if rng.random() < 0.5 else ()) for c in made]
        return (first(tuple(names), tuple(exports[x] for x in sorted(exports)), program[4]),) + tuple(made)

    def test_all_small_shelves(self):
        """With all programs that have one name: that a shelf of two cards shows nothing if three are told."""
        worths = [(s, n) for s, n in WORTH]
        cards = [card("li", (), e, w) for e in [()] + [(("x",) + t,) for t in worths]
                 for w in [()] + [(("x",) + t + (s,),) for t in worths for s in (False, True)]]
        cards = [c for c in cards if is_edition(c)]
        programs = [first(("li",), e, w) for e in [()] + [(("x",) + t,) for t in worths]
                    for w in [()] + [(("x",) + t + (s,),) for t in worths for s in (False, True)]]
        for old in cards:
            for new in cards:
                two = any(shows(old, new, (p, old)) for p in programs)
                shelf = apart(old, new)
                self.assertEqual(two, shelf is not None and len(shelf) == 2, (old, new))
                self.assertIs(shelf is None, may_replace(old, new))

    def test_facts(self):
        """It is true of a card and itself, and goes on from one to the next; both ways only spares differ."""
        both = 0
        for seed in range(600):
            rng = random.Random(seed)
            one = one_card(rng, "li", ["la"])
            made = [c for c in [one] + [edition(rng, one) for _ in range(3)] if is_edition(c)]
            for a in made:
                self.assertIs(may_replace(a, a), True)
                for b in made:
                    if may_replace(a, b):
                        for c in made:
                            if may_replace(b, c):
                                self.assertIs(may_replace(a, c), True)
                        if may_replace(b, a) and a != b:
                            both += 1
                            exported = {e[0] for e in a[3]}
                            self.assertEqual(a[:4], b[:4])
                            self.assertEqual([w[:3] for w in a[4]], [w[:3] for w in b[4]])
                            self.assertTrue(all(v == w or v[0] in exported for v, w in zip(a[4], b[4])))
        self.assertGreater(both, 5)


class ExchangedTest(unittest.TestCase):
    def test_by_hand(self):
        wants = (("f", "code", 0, False),)
        program, li, lo = image(needs=("lo", "li"), wants=wants), image("li", exports=(("f", "code", 0, 0),)), image("lo")
        other = image("li", exports=(("f", "code", 3, 0),), more=4)
        self.assertEqual(exchanged(program, (li, lo), other), (program, lo, other))
        self.assertEqual(exchanged(image=image("lo", more=2), libraries=(li, lo), program=program), (program, image("lo", more=2), li))
        for thing in WEIRD + (program, image("la"), image(), list(other)):
            self.assertEqual(raised(exchanged, program, (li, lo), thing), ("BadImage", {}))
        self.assertEqual(raised(exchanged, program, (li, lo, image("la")), image("la")), ("BadImage", {}))
        for new in (image("li"), image("li", ("la",), li[6]), image("lo", (), (("f", "code", 0, 0),)),
                    image("li", exports=(("f", "data", 0, 1),)), image("li", (), li[6], (("z", "code", 0, False),))):
            self.assertEqual(raised(exchanged, program, (li, lo), new), ("NoFit", {}))
        self.assertEqual(raised(exchanged, program, (lo, li), image("lo", ("li",)))[0], "NoFit")
        self.assertEqual(raised(exchanged, program, (lo, li), image("li", ("lo",), li[6]))[0], "told")
        for args, told in (((li, None, None), "BadImage"), ((program, [li], None), "BadImages"),
                           ((program, (li,), None), "NoLibrary"), ((program, (image("li"), lo), None), "NotLet")):
            self.assertEqual(raised(exchanged, *args)[0], told)

    def test_drawn(self):
        """Then each want of the others leads to the same image's export of the same name."""
        done = 0
        for seed in range(600):
            rng = random.Random(seed)
            program, libraries = worlds.one_scope(rng, 0.02, 0)
            if len(scope(program, libraries)) < 2 or not is_let(program, libraries):
                continue
            images = scope(program, libraries)
            old = rng.choice(images[1:])
            new = worlds.one_image(rng, old[1], old[3], 0.02)
            if rng.random() < 0.7:
                new = new[:4] + old[4:7] + old[7:] if rng.random() < 0.5 else old[:5] + ((0,),) + old[6:]
            shelf = tuple(card_of(i) for i in images)
            told = raised(exchanged, program, libraries, new)
            if not fitting(shelf, card_of(new)):
                self.assertEqual(told, ("NoFit", {}))
                continue
            done += 1
            at = images.index(old)
            self.assertEqual(told, ("told", images[:at] + (new,) + images[at + 1:]))
            names = [i[1] for i in images]
            before, after = bindings(program, libraries), bindings(told[1][0], told[1][1:])
            for k, (one, other) in enumerate(zip(before, after)):
                if k != at:
                    self.assertEqual([p and names[p[0]] for p in one], [p and names[p[0]] for p in other])
        self.assertGreater(done, 30)


if __name__ == "__main__":
    unittest.main()
