"""Books and odd values that several tests use."""

HOUSES = (
    ("elm", (("code", "size"), ((0, (1, "red")), (1, (0, None))))),
    ("oak", (("mark", "size", "town"), ((0, (0, "red", "ulm")), (1, (1, None, -5)), (7, (2, 3, "bonn"))))),
)
LIKES = ((("elm", "code"), ("oak", "mark")), (("elm", "size"), ("oak", "size")))
KEYS = ((("elm", "code"),), (("elm", "code"), ("oak", "size")))
TIES = ((("elm", 0), ("oak", 7)), (("elm", 1), ("oak", 1)))
CUTS = ((("elm", 1), ("oak", 0)), (("elm", 1), ("oak", 1)))
BOOK = (HOUSES, LIKES, KEYS, TIES, CUTS)


def nested(depth, inner, box):
    """The inner value within so many boxes (list or tuple)."""
    for _ in range(depth):
        inner = box([inner])
    return inner


# Right at no place of houses, likes or a book.
NEVER_RIGHT = [
    True, False, 10 ** 39, -(10 ** 39), 10 ** 6 + 1, -(10 ** 6) - 1,
    "", "Elm", "elm1", "elm ", "nineletts", "~" * 200, " ",
    [], [1], ["elm"], [None], [[]], [("elm", 0)], list(HOUSES), list(BOOK),
    (None,), (True,), ([],), ((),), (((),),), (0, 1, 2, 3, 4, 5, 6), ("elm", True), ("elm", ["code"]), (["elm"], 0),
    nested(10, 1, list), nested(10, "elm", tuple), nested(9, (), tuple),
]

# Things of all kinds: those, and such as are right somewhere.
ANYTHING = NEVER_RIGHT + [None, 0, 1, -1, 999, 1000, "elm", "code", "oak", (), ("elm", 0), ("elm", "code"), (0, 1)]


def places(thing):
    """The ways, tuples of indexes, to a thing and to all that is within it."""
    found = [()]
    if isinstance(thing, tuple):
        for at, part in enumerate(thing):
            found += [(at,) + rest for rest in places(part)]
    return found


def at_place(thing, place):
    """What is at a place of a thing."""
    for at in place:
        thing = thing[at]
    return thing


def put(thing, place, part):
    """The thing with another part at a place."""
    if not place:
        return part
    at = place[0]
    return thing[:at] + (put(thing[at], place[1:], part),) + thing[at + 1:]


def spoilt(thing):
    """The thing with each of its parts, in turn, replaced by what is right at no place, or by a list of it."""
    for place in places(thing):
        part = at_place(thing, place)
        if isinstance(part, tuple):
            yield put(thing, place, list(part))
        for stray in NEVER_RIGHT:
            yield put(thing, place, stray)


def stirred(thing):
    """The thing with each of its parts, in turn, replaced by anything, left out, or there twice."""
    for place in places(thing):
        for stray in ANYTHING:
            yield put(thing, place, stray)
        part = at_place(thing, place)
        if isinstance(part, tuple):
            for at in range(len(part)):
                yield put(thing, place, part[:at] + part[at + 1:])
                yield put(thing, place, part[:at] + part[at:at + 1] + part[at:])
            if len(part) > 1:
                yield put(thing, place, part[::-1])
