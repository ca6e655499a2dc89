"""Shapes of knots: what is seen of them along steps, so and so deep."""

from onebase.errors import BadDepth, TooMany
from onebase.kinds import within
from onebase.parting import front_in, steps_of
from onebase.webs import check_knot

MOST_DEEP = 60
MOST_FRONTS = 400


def shape(web, knot, deep):
    """BadWeb, BadKnot, BadDepth, TooMany; the front, with shapes in the places of steps."""
    check_knot(web, knot)
    if not within(deep, 0, MOST_DEEP):
        raise BadDepth("no number from 0 to 60")
    if fronts_of(web, knot, deep) > MOST_FRONTS:
        raise TooMany(MOST_FRONTS)
    return shape_in(web, knot, deep)


def fronts_of(web, knot, deep):
    """How many fronts the shape has, counted as often as they stand there."""
    steps = [steps_of(web, here) for here in range(len(web[3]))]
    many = [1] * len(steps)
    for _ in range(deep):
        # Of more than there may be no one asks how many.
        many = [min(1 + sum([many[step] for step in behind]), MOST_FRONTS + 1) for behind in steps]
    return many[knot]


def shape_in(web, knot, deep):
    """As shape, of what is known to be right."""
    sort, body = front_in(web, knot)
    steps = steps_of(web, knot)
    if deep == 0 or not steps:
        return (sort, body)
    inner = [shape_in(web, step, deep - 1) for step in steps]
    inner.reverse()
    rows = []
    for row in body:
        rows.append(tuple([inner.pop() if part == "" else part for part in row]))
    return (sort, tuple(rows))
