"""Short ways to write webs down."""


def knot(name, *rows):
    return ("knot", (0, name), "code", rows)


def web(roots, outs, *knots):
    return ("web", roots, outs, knots)


def chain(many, back=False):
    """Knots each of which calls the next one; or the one ahead, and the last one is the root."""
    last = 0 if back else many - 1
    rows = [(("show", 0),) if k == last else (("call", k - 1 if back else k + 1),) for k in range(many)]
    names = ["k" + chr(97 + k // 26) + chr(97 + k % 26) for k in range(many)]
    return web((many - 1 if back else 0,), (), *[knot(x, *held, ("return",)) for x, held in zip(names, rows)])


def far_web(rng, many):
    """All kept, and nearly all of one front: what tells them apart stands far away."""
    rows = []
    for k in range(many):
        if k < rng.choice((1, 1, 2)):
            rows.append((("show", k), ("return",)))
        elif rng.random() < 0.1:
            rows.append((("call", rng.randrange(many)), ("jump", rng.randrange(many))))
        else:
            low = rng.randrange(max(1, k - 2), many) if rng.random() < 0.6 else max(k - 1, 0)
            rows.append((("call", low), ("call", rng.choice((low, k, rng.randrange(many)))), ("return",)))
    names = ["k" + chr(97 + k) for k in range(many)]
    return web(tuple(range(many)), tuple(k for k in range(many) if rng.random() < 0.1), *[knot(x, *r) for x, r in zip(names, rows)])
