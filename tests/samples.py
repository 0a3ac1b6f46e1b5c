"""Books and odd values that several tests use."""

from poolbook.ties import is_book

HOUSES = (
    ("elm", (("code", "size"), ((0, (1, "red")), (1, (0, None))))),
    ("oak", (("mark", "size", "town"), ((0, (0, "red", "ulm")), (1, (1, None, -5)), (7, (2, 3, "bonn"))))),
)
LIKES = ((("elm", "code"), ("oak", "mark")), (("elm", "size"), ("oak", "size")))
KEYS = ((("elm", "code"),), (("elm", "code"), ("oak", "size")))
TIES = ((("elm", 0), ("oak", 7)), (("elm", 1), ("oak", 1)))
CUTS = ((("elm", 1), ("oak", 0)), (("elm", 1), ("oak", 1)))
BOOK = (HOUSES, LIKES, KEYS, TIES, CUTS)


def nested(depth, inner, box):
    """The inner value within so many boxes (list or tuple)."""
    for _ in range(depth):
        inner = box([inner])
    return inner


# Right at no place of houses, likes or a book.
NEVER_RIGHT = [
    True, False, 10 ** 39, -(10 ** 39), 10 ** 6 + 1, -(10 ** 6) - 1,
    "", "Elm", "elm1", "elm ", "nineletts", "~" * 200, " ",
    [], [1], ["elm"], [None], [[]], [("elm", 0)], list(HOUSES), list(BOOK),
    (None,), (True,), ([],), ((),), (((),),), (0, 1, 2, 3, 4, 5, 6), ("elm", True), ("elm", ["code"]), (["elm"], 0),
    nested(10, 1, list), nested(10, "elm", tuple), nested(9, (), tuple),
]

# Things of all kinds: those, and such as are right somewhere.
ANYTHING = NEVER_RIGHT + [None, 0, 1, -1, 999, 1000, "elm", "code", "oak", (), ("elm", 0), ("elm", "code"), (0, 1)]


def places(thing):
    """The ways, tuples of indexes, to a thing and to all that is within it."""
    found = [()]
    if isinstance(thing, tuple):
        for at, part in enumerate(thing):
            found += [(at,) + rest for rest in places(part)]
    return found


def at_place(thing, place):
    """What is at a place of a thing."""
    for at in place:
        thing = thing[at]
    return thing


def put(thing, place, part):
    """The thing with another part at a place."""
    if not place:
        return part
    at = place[0]
    return thing[:at] + (put(thing[at], place[1:], part),) + thing[at + 1:]


def spoilt(thing):
    """The thing with each of its parts, in turn, replaced by what is right at no place, or by a list of it."""
    for place in places(thing):
        part = at_place(thing, place)
        if isinstance(part, tuple):
            yield put(thing, place, list(part))
        for stray in NEVER_RIGHT:
            yield put(thing, place, stray)


def stirred(thing):
    """The thing with each of its parts, in turn, replaced by anything, left out, or there twice."""
    for place in places(thing):
        for stray in ANYTHING:
            yield put(thing, place, stray)
        part = at_place(thing, place)
        if isinstance(part, tuple):
            for at in range(len(part)):
                yield put(thing, place, part[:at] + part[at + 1:])
                yield put(thing, place, part[:at] + part[at:at + 1] + part[at:])
            if len(part) > 1:
                yield put(thing, place, part[::-1])


def call(text):
    """A column house.name or a row house.id."""
    house, part = text.split(".")
    return (house, int(part) if part.isdigit() else part)


def calls(text):
    """A tuple of columns or rows."""
    return tuple([call(part) for part in text.split()])


def pairs(text):
    """A rising tuple of pairs that are written one-other."""
    return tuple(sorted([calls(part.replace("-", " ")) for part in text.split()]))


def table(columns, **rows):
    """A table; rows are told as r3=(..)."""
    return (tuple(columns.split()), tuple(sorted([(int(name[1:]), row) for name, row in rows.items()])))


def bare(rows):
    """Houses with one column and rows of None, told as calls."""
    names = sorted(set([house for house, _ in calls(rows)]))
    return tuple([(name, (("a",), tuple([(number, (None,)) for house, number in sorted(calls(rows)) if house == name])))
                  for name in names])


def book(houses, likes="", keys=(), ties="", cuts=""):
    """A book of houses, which is checked to be one."""
    made = (houses, pairs(likes), tuple([calls(key) for key in keys]), pairs(ties), pairs(cuts))
    assert is_book(made), made
    return made


def choices(text):
    """Choices that are written column=word, in the order in which they stand."""
    return tuple([(call(part.split("=")[0]), part.split("=")[1]) for part in text.split()])


def rules(trust, chosen=""):
    """Rules: the names in order of trust, and choices."""
    return (tuple(trust.split()), choices(chosen))


def ask(text):
    """An ask whose parts are written column:word:worth, in the order in which they stand."""
    parts = [part.split(":") for part in text.split()]
    return tuple([(call(column), word, worth if worth.isalpha() else int(worth)) for column, word, worth in parts])


def told_book(*worths):
    """Houses a, b, .. of one kind, each with row 0 and such a worth, all of them one thing."""
    names = "abcd"[:len(worths)]
    houses = tuple([(name, table("x", r0=(worth,))) for name, worth in zip(names, worths)])
    steps = list(zip(names, names[1:]))
    return book(houses, " ".join([f"{one}.x-{other}.x" for one, other in steps]), (),
                " ".join([f"{one}.0-{other}.0" for one, other in steps]))


def chance_book(chance):
    """A small book made by chance, often odd."""
    names = ("a", "b", "c")[:chance.randint(2, 3)]
    worths = (0, 1, 1, "x", None)
    houses = []
    for name in names:
        columns = ("p", "q", "r")[:chance.randint(1, 3)]
        numbers = sorted(chance.sample(range(4), chance.randint(0, 2)))
        rows = tuple([(number, tuple([chance.choice(worths) for _ in columns])) for number in numbers])
        houses.append((name, (columns, rows)))
    columns = [(name, column) for name, (own, _) in houses for column in own]
    rows = [(name, number) for name, (_, own) in houses for number, _ in own]
    keys = [tuple(sorted(chance.sample(columns, chance.randint(1, min(2, len(columns)))))) for _ in range(2)]
    return (tuple(houses), chance_pairs(chance, columns), tuple(sorted(set(keys))),
            chance_pairs(chance, rows), chance_pairs(chance, rows))


def chance_pairs(chance, members):
    """Up to three pairs of members of unlike houses."""
    every = [(one, other) for one in members for other in members if one[0] < other[0]]
    return tuple(sorted(chance.sample(every, chance.randint(0, min(3, len(every))))))


# The first and the last worth in order.
ENDS = (-10 ** 6, "zzzzzzzz")
WORDS = ("first", "greatest", "least", "most", "only")


def sound_book(chance):
    """A book made by chance in which nothing is odd, with things of up to four rows and many cells at odds."""
    names = ("a", "b", "c", "d")[:chance.choice((1, 2, 3, 4, 4, 4))]
    worths = chance.choice(((1, 2, None), (1, 1, "x", "y", None), (0, 3, "x") + ENDS, (5,), (None, 2, 2, "zzzzzzzz")))
    houses = []
    kind_of = {}
    thing_of = {}
    for name in names:
        columns = ("p", "q", "r")[:chance.randint(1, 3)]
        numbers = tuple(range(chance.choice((0, 1, 2, 3, 3))))
        rows = [(number, tuple([chance.choice(worths) for _ in columns])) for number in numbers]
        houses.append((name, (columns, tuple(rows))))
        # A house is at most once in each lot, so no lot is odd.
        for column, lot in zip(columns, chance.sample(range(3), len(columns))):
            kind_of[(name, column)] = lot
        for number, lot in zip(numbers, chance.sample(range(3), len(numbers))):
            thing_of[(name, number)] = lot
    return (tuple(houses), chained(kind_of), (), chained(thing_of), ())


def chained(lot_of):
    """Pairs by which the members of each lot, but those of lot 0, hang together as a chain."""
    found = []
    for lot in sorted(set(lot_of.values()) - {0}):
        members = sorted([member for member in lot_of if lot_of[member] == lot])
        found += list(zip(members, members[1:]))
    return tuple(sorted(found))


def chance_rules(chance, made):
    """Rules of a book, made by chance."""
    trust = [name for name, _ in made[0]]
    chance.shuffle(trust)
    columns = [(name, column) for name, (own, _) in made[0] for column in own]
    chosen = sorted(chance.sample(columns, chance.randint(0, min(8, len(columns)))))
    return (tuple(trust), tuple([(column, chance.choice(WORDS)) for column in chosen]))


ASK_WORDS = ("above", "below", "is", "not")


def chance_ask(chance, made):
    """An ask of a book, made by chance, often with several parts of one kind."""
    columns = [(name, column) for name, (own, _) in made[0] for column in own]
    columns = chance.sample(columns, min(len(columns), 2))
    told = [worth for _, (_, rows) in made[0] for _, row in rows for worth in row if worth is not None]
    parts = [(chance.choice(columns), chance.choice(ASK_WORDS), chance.choice(told + [1, 2, "x"]))
             for _ in range(chance.choice((0, 1, 1, 2, 2, 3, 3)))]
    return tuple(sorted(set(parts), key=lambda part: (part[0], part[1], worth_place(part[2]))))


def worth_place(worth):
    """What puts worths in order: numbers ahead of names."""
    return (0, worth, "") if isinstance(worth, int) else (1, 0, worth)


def shown_by_words(word, trust, told):
    """What is shown of what houses tell (a dict of names, None for none), read off the words of the document."""
    told = {name: worth for name, worth in told.items() if worth is not None}
    if not told:
        return None
    first = [name for name in trust if name in told][0]
    ordered = sorted(told.values(), key=worth_place)
    if word == "most":
        many = {worth: ordered.count(worth) for worth in ordered}
        best = [worth for worth in many if many[worth] == max(many.values())]
        return told[[name for name in trust if told.get(name) in best and name in told][0]]
    only = ordered[0] if len(set(ordered)) == 1 else None
    return {"first": told[first], "greatest": ordered[-1], "least": ordered[0], "only": only}[word]
