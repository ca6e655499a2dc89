"""Words: ways along steps, and which of them tell knots apart."""

from onebase.errors import BadWord, NotKept
from onebase.keeping import kept_in
from onebase.kinds import is_number, is_tuple_of
from onebase.parting import front_in, step_of
from onebase.webs import check_number, check_web


def behind(web, knot, word):
    """BadWeb, BadKnot, BadWord; the knot to which the word leads from the knot, or None."""
    check_web(web)
    check_number(web, knot)
    check_word(word)
    ways = Ways(web)
    for n in word:
        knot = ways.step(knot, n)
        if knot is None:
            return None
    return knot


def is_road_word(thing):
    """Whether any value is a word: numbers of rows."""
    return is_tuple_of(thing, lambda n: is_number(n) and n >= 0)


def check_word(word):
    if not is_road_word(word):
        raise BadWord("no word")


def tells(web, one, other, word):
    """BadWeb, BadKnot, BadWord; whether the word tells two knots apart."""
    check_web(web)
    check_number(web, one)
    check_number(web, other)
    check_word(word)
    ways = Ways(web)
    return ways.along(one, word) != ways.along(other, word)


def word_apart(web, one, other):
    """BadWeb, BadKnot, NotKept; the shortest word that tells two knots apart, or None."""
    check_web(web)
    check_number(web, one)
    check_number(web, other)
    seen = kept_in(web)
    for knot in (one, other):
        if knot not in seen:
            raise NotKept(knot)
    return Ways(web).word_apart(one, other)


class Ways:
    """The fronts and the steps of a web's knots, each looked at once."""

    def __init__(self, web):
        self.web = web
        self.numbers = {}
        self.fronts = {}
        self.steps = {}

    def front(self, knot):
        """A number that tells the knot's front: equal ones for equal fronts."""
        if knot not in self.fronts:
            told = front_in(self.web, knot)
            self.fronts[knot] = self.numbers.setdefault(told, len(self.numbers))
        return self.fronts[knot]

    def rows(self, knot):
        """By the numbers of rows, ascending, where their steps lead."""
        if knot not in self.steps:
            _, _, sort, body = self.web[3][knot]
            found = {}
            for n, row in enumerate(body if sort == "code" else ()):
                step = step_of(self.web, knot, row)
                if step is not None:
                    found[n] = step
            self.steps[knot] = found
        return self.steps[knot]

    def step(self, knot, n):
        return self.rows(knot).get(n)

    def along(self, knot, word):
        """The fronts on the way along the word, as far as it goes.

        As long as two knots have equal fronts they have steps in the same rows:
        so a word tells them apart exactly if these differ.
        """
        found = [self.front(knot)]
        for n in word:
            knot = self.step(knot, n)
            if knot is None:
                return tuple(found)
            found.append(self.front(knot))
        return tuple(found)

    def word_apart(self, one, other):
        """As word_apart, of what is known to be right."""
        seen = {(one, other): True}
        wave = [(one, other, ())]
        while wave:
            further = []
            for here, there, word in wave:
                if self.front(here) != self.front(there):
                    return word
                for n, step in self.rows(here).items():
                    pair = (step, self.step(there, n))
                    if pair not in seen:
                        seen[pair] = True
                        further.append(pair + (word + (n,),))
            wave = further
        return None
