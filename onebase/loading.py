"""Loading: which images a program runs with, what is bound to what, and memory."""

from onebase.errors import BadBases, BadImage, BadImages, NoLibrary, NotLet, TooWide
from onebase.kinds import are_different, is_number, is_tuple_of, within
from onebase.readback import is_image

# Memory has the addresses from 0 up to this many; at 0 no image may stand.
ADDRESSES = 4096


def card_of(image):
    """BadImage; the card of the image."""
    if not is_image(image):
        raise BadImage("no image")
    return card_in(image)


def card_in(image):
    """As card_of, of an image that is known to be right."""
    exports = tuple([(x, sort, many) for x, sort, _, many in image[6]])
    return ("card", image[1], image[3], exports, image[4])


def size_of_image(image):
    return image[11][5]


def check_images(program, libraries):
    """BadImage, BadImages: what is raised ahead of all else for a program and libraries."""
    if not is_image(program) or program[1] != "":
        raise BadImage("no image of a program")
    if not is_tuple_of(libraries, is_image):
        raise BadImages("no tuple of images")
    names = [image[1] for image in libraries]
    if "" in names or not are_different(names):
        raise BadImages("no images of libraries with different names")


def lacking_among(program, libraries):
    """The first name that is needed as scope tells and lacking, None if there is none."""
    libs = {image[1]: image for image in libraries}
    needs = program[3]
    for x in needs:
        if x not in libs:
            return x
    for x in needs:
        for behind in libs[x][3]:
            if behind not in needs:
                return behind
    return None


def scope(program, libraries):
    """BadImage, BadImages, NoLibrary; the program and the images that it needs, in order."""
    check_images(program, libraries)
    x = lacking_among(program, libraries)
    if x is not None:
        raise NoLibrary(x)
    return scope_of(program, libraries)


def scope_of(program, libraries):
    """As scope, of what is known to lack nothing."""
    libs = {image[1]: image for image in libraries}
    return (program,) + tuple([libs[x] for x in program[3]])


def walk(needs, first):
    """The numbers of all in the order in which a walk from the first comes back from them.

    needs tells for each one, by numbers and in order, where the walk goes on.
    """
    found = []
    seen = {first: True}
    ways = [(first, 0)]
    while ways:
        here, at = ways.pop()
        if at == len(needs[here]):
            found.append(here)
        else:
            ways.append((here, at + 1))
            there = needs[here][at]
            if there not in seen:
                seen[there] = True
                ways.append((there, 0))
    return found


def walk_of(cards):
    """As walk, of the cards of a scope, by their numbers there."""
    number = {card[1]: at for at, card in enumerate(cards)}
    return walk([[number[x] for x in card[2]] for card in cards], 0)


def beginnings(program, libraries):
    """The errors of scope; the pairs (index in the scope, position) as they begin."""
    images = scope(program, libraries)
    found = []
    for at in walk_of([card_in(image) for image in images]):
        found.extend([(at, position) for position in images[at][5]])
    return tuple(found) + ((0, program[2]),)


def bound_in(cards):
    """NotLet; for each card of a scope, for each of its wants, an index or None."""
    refused = refused_in(cards)
    if refused is not None:
        name, x, why = refused
        raise NotLet(name, x, why)
    firsts = exporters(cards)
    found = []
    for card in cards:
        found.append(tuple([firsts[x][0] if x in firsts else None for x, _, _, _ in card[4]]))
    return tuple(found)


def refused_in(cards):
    """The first want of a scope's cards that is not let, as NotLet tells it, or None."""
    firsts = exporters(cards)
    for card in cards:
        for x, sort, many, spare in card[4]:
            why = refusal(firsts.get(x), sort, many, spare)
            if why is not None:
                return card[1], x, why
    return None


def exporters(cards):
    """By names that cards export the first one's index, and the sort and length there."""
    firsts = {}
    for at, card in enumerate(cards):
        for x, sort, many in card[3]:
            firsts.setdefault(x, (at, sort, many))
    return firsts


def refusal(first, sort, many, spare):
    """Why a want is not let that is bound so, None if it is let."""
    if first is None:
        return None if spare else "lacks"
    if first[1] != sort:
        return "sort"
    return None if first[2] == many else "length"


def bindings(program, libraries):
    """The errors of scope, NotLet; for each image, for each of its wants, a pair or None."""
    return bound_images(scope(program, libraries))


def bound_images(images):
    """As bindings, of the images of a scope."""
    cards = [card_in(image) for image in images]
    places = [{x: position for x, _, position, _ in image[6]} for image in images]
    found = []
    for card, aims in zip(cards, bound_in(cards)):
        pairs = []
        for want, at in zip(card[4], aims):
            pairs.append(None if at is None else (at, places[at][want[0]]))
        found.append(tuple(pairs))
    return tuple(found)


def is_let(program, libraries):
    """BadImage, BadImages; whether neither NoLibrary nor NotLet is raised."""
    check_images(program, libraries)
    if lacking_among(program, libraries) is not None:
        return False
    return refused_in([card_in(image) for image in scope_of(program, libraries)]) is None


def are_bases(program, libraries, thing):
    """The errors of scope; whether any value tells bases for the images of the scope."""
    return are_bases_of(scope(program, libraries), thing)


def are_bases_of(images, thing):
    if not is_tuple_of(thing, lambda base: within(base, 1, ADDRESSES)):
        return False
    if len(thing) != len(images):
        return False
    ways = sorted([(base, base + size_of_image(image)) for base, image in zip(thing, images)
                   if size_of_image(image) > 0])
    for at, (_, end) in enumerate(ways):
        if end > ADDRESSES or (at + 1 < len(ways) and end > ways[at + 1][0]):
            return False
    return True


def bases_for(program, libraries):
    """The errors of scope, TooWide; the least bases, one behind another."""
    return least_bases(scope(program, libraries))


def least_bases(images):
    """TooWide; as bases_for, of the images of a scope."""
    bases = [1]
    for image in images:
        bases.append(bases[-1] + size_of_image(image))
    if bases[-1] > ADDRESSES:
        raise TooWide(bases[-1] - 1)
    return tuple(bases[:-1])


def memory(program, libraries, bases=None):
    """The errors of bindings, TooWide or BadBases; the cells of memory."""
    return tuple(loaded(program, libraries, bases).cells)


def loaded(program, libraries, bases):
    """As memory: the loading, of which the cells are a part."""
    images = scope(program, libraries)
    bound = bound_images(images)
    if bases is None:
        bases = least_bases(images)
    elif not are_bases_of(images, bases):
        raise BadBases("no bases of the scope")
    return Loading(images, bound, bases)


class Loading:
    """The images of a scope at their bases, and the cells of memory."""

    def __init__(self, images, bound, bases):
        self.images = images
        self.bases = bases
        self.cells = [0] * ADDRESSES
        self.owner = [None] * ADDRESSES
        for at, (image, base) in enumerate(zip(images, bases)):
            self.cells[base:base + len(image[10])] = list(image[10])
            end = base + size_of_image(image)
            self.owner[base:end] = [at] * (end - base)
        for image, base, pairs in zip(images, bases, bound):
            aims = {}
            for want, pair in zip(image[4], pairs):
                aims[want[0]] = 0 if pair is None else bases[pair[0]] + pair[1]
            for position, x, _ in image[7]:
                self.put(base + position, aims[x])
            for position, lead in image[8]:
                self.put(base + position, base + lead if is_number(lead) else aims[lead])

    def put(self, place, address):
        """Puts an address into two cells."""
        self.cells[place] = address // 64
        self.cells[place + 1] = address % 64
