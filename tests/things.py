"""Objects that several tests ask about."""


def nested(depth, make):
    """A thing that is nested so many times, each time as make tells."""
    thing = make(None)
    for _ in range(depth - 1):
        thing = make(thing)
    return thing


DEEP = (
    nested(400, lambda thing: (thing,)),
    nested(400, lambda thing: [thing]),
    nested(400, lambda thing: {"a": thing}),
)
LARGE = (
    nested(11, lambda thing: (thing, thing)),
    ["a"] * 4999,
    tuple(("a", 0) for _ in range(1600)),
)
