"""Books: houses with likes, keys, ties and cuts; which rows are tied, and the things that they make."""

from poolbook.houses import are_houses, are_likes, are_links, calls_one, columns_of, kinds, rows_of
from poolbook.plain import distances, groups, is_odd, is_tuple, neighbours, rises

MOST_KEYS = 3
MOST_KEY_COLUMNS = 3


def is_key(members, thing):
    """Whether anything is a key by columns that are among the members."""
    if not is_tuple(thing, 1, MOST_KEY_COLUMNS):
        return False
    return all([calls_one(members, column) for column in thing]) and rises(thing)


def are_keys(members, thing):
    """Whether anything is keys by columns that are among the members."""
    if not is_tuple(thing, 0, MOST_KEYS):
        return False
    return all([is_key(members, key) for key in thing]) and rises(thing)


def is_book(thing):
    """Whether anything is a book."""
    if not is_tuple(thing, 5, 5):
        return False
    houses, likes, keys, ties, cuts = thing
    if not are_houses(houses) or not are_likes(houses, likes):
        return False
    rows = rows_of(houses)
    return are_keys(columns_of(houses), keys) and are_links(rows, ties) and are_links(rows, cuts)


def told_worths(houses, kind):
    """For each row that tells a worth of the kind, this worth."""
    told = {}
    for name, (columns, rows) in houses:
        places = [place for place, column in enumerate(columns) if (name, column) in kind]
        # Of several columns of the kind the first one counts, even where it holds None.
        for place in places[:1]:
            for number, row in rows:
                if row[place] is not None:
                    told[(name, number)] = row[place]
    return told


def told_by_keys(book):
    """For each key the list of what is told of each of its kinds."""
    houses, likes, keys, ties, cuts = book
    kind_of = {column: kind for kind in kinds(houses, likes) for column in kind}
    return [[told_worths(houses, kind_of[column]) for column in key] for key in keys]


def agree(told_of_key, one, other):
    """Whether two rows tell the same worth of each of a key's kinds."""
    return all([one in told and other in told and told[one] == told[other] for told in told_of_key])


def agreeing_keys(told_of_keys, one, other):
    """The rising list of the places of all keys by which two rows agree."""
    return [place for place, told_of_key in enumerate(told_of_keys) if agree(told_of_key, one, other)]


def tied(book):
    """The rising list of all tied pairs, the lesser row ahead."""
    houses, likes, keys, ties, cuts = book
    told_of_keys = told_by_keys(book)
    rows = rows_of(houses)
    pairs = [(one, other) for one in rows for other in rows if one[0] < other[0]]
    uncut = [pair for pair in pairs if pair not in cuts]
    return [pair for pair in uncut if pair in ties or agreeing_keys(told_of_keys, pair[0], pair[1])]


def reasons(book, one, other):
    """For two rows the places of the keys by which they agree, whether they are a tie, and whether a cut."""
    houses, likes, keys, ties, cuts = book
    pair = (one, other)
    return agreeing_keys(told_by_keys(book), one, other), pair in ties, pair in cuts


def way(book, one, other):
    """The first of the shortest ways of tied rows from one row to another, or None."""
    beside = neighbours(rows_of(book[0]), tied(book))
    left = distances(beside, other)
    if one not in left:
        return None
    path = [one]
    while left[path[-1]] > 0:
        here = path[-1]
        # The least of all steps that come nearer makes the whole way the first of the shortest.
        path.append(min([row for row in beside[here] if left[row] < left[here]]))
    return path


def things(book):
    """The rising list of all things."""
    return groups(rows_of(book[0]), tied(book))


def odd_things(book):
    """The rising list of the things in which two rows of a house are."""
    return [thing for thing in things(book) if is_odd(thing)]
