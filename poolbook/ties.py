"""Books: houses with likes, keys, ties and cuts; which rows are tied, and the things that they make."""

from poolbook.houses import are_houses, are_likes, are_links, calls_column, calls_row, rows_of
from poolbook.plain import all_groups, distances, group_with, is_odd, is_tuple, linked, neighbours, rises

MOST_KEYS = 3
MOST_KEY_COLUMNS = 3


def is_key(houses, thing):
    """Whether anything is a key by columns of the houses."""
    if not is_tuple(thing, 1, MOST_KEY_COLUMNS):
        return False
    return all([calls_column(houses, column) for column in thing]) and rises(thing)


def are_keys(houses, thing):
    """Whether anything is keys by columns of the houses."""
    if not is_tuple(thing, 0, MOST_KEYS):
        return False
    return all([is_key(houses, key) for key in thing]) and rises(thing)


def is_book(thing):
    """Whether anything is a book."""
    if not is_tuple(thing, 5, 5):
        return False
    houses, likes, keys, ties, cuts = thing
    if not are_houses(houses) or not are_likes(houses, likes) or not are_keys(houses, keys):
        return False
    return are_links(calls_row, houses, ties) and are_links(calls_row, houses, cuts)


def told_worths(houses, kind):
    """For each row, in order, that tells a worth of the kind, this worth."""
    # Of several columns of a house the first one counts, even where it holds None: backwards it is put in last.
    own = dict(kind[::-1])
    told = {}
    for name, (columns, rows) in houses:
        if name in own:
            place = columns.index(own[name])
            for number, row in rows:
                worth = row[place]
                if worth is not None:
                    told[(name, number)] = worth
    return told


def told_by_key(houses, linked_kinds, key):
    """For each row, in order, that tells a worth of each of a key's kinds, what it tells of them."""
    told = told_worths(houses, group_with(linked_kinds, key[0]))
    for column in key[1:]:
        more = told_worths(houses, group_with(linked_kinds, column))
        told = {row: (told[row], more[row]) for row in told if row in more}
    return told


def agreeing_lots(houses, linked_kinds, keys):
    """The list of the rising lists of rows, not all of one house, that agree by a key."""
    lots = []
    for key in keys:
        by_worths = {}
        for row, worths in told_by_key(houses, linked_kinds, key).items():
            if worths in by_worths:
                by_worths[worths].append(row)
            else:
                by_worths[worths] = [row]
        lots.extend([lot for lot in by_worths.values() if lot[0][0] != lot[-1][0]])
    return lots


def tied_pairs(lots, ties, cuts):
    """The list, in no order, some of them often, of all tied pairs."""
    pairs = list(ties)
    for lot in lots:
        pairs.extend([(one, other) for one in lot for other in lot if one[0] < other[0]])
    return [pair for pair in pairs if pair not in cuts]


def linked_rows(book, linked_kinds):
    """The list, in no order, of all things of several rows."""
    houses, likes, keys, ties, cuts = book
    lots = agreeing_lots(houses, linked_kinds, keys)
    if cuts:
        return linked(tied_pairs(lots, ties, cuts))
    links = list(ties)
    for lot in lots:
        # Two rows of one house are not tied, but hang together by those of the other houses of the lot.
        links.extend([(lot[0], row) for row in lot[1:]])
    return linked(links)


def tied(book):
    """The rising list of all tied pairs, the lesser row ahead."""
    houses, likes, keys, ties, cuts = book
    return sorted(set(tied_pairs(agreeing_lots(houses, linked(likes), keys), ties, cuts)))


def reasons(book, one, other):
    """For two rows the places of the keys by which they agree, whether they are a tie, and whether a cut."""
    houses, likes, keys, ties, cuts = book
    linked_kinds = linked(likes)
    told_of_keys = [told_by_key(houses, linked_kinds, key) for key in keys]
    places = [place for place, told in enumerate(told_of_keys) if one in told and told[one] == told.get(other)]
    return places, (one, other) in ties, (one, other) in cuts


def way(book, one, other):
    """The first of the shortest ways of tied rows from one row to another, or None."""
    beside = neighbours(rows_of(book[0]), tied(book))
    left = distances(beside, other)
    if one not in left:
        return None
    path = [one]
    while left[path[-1]] > 0:
        here = path[-1]
        # The least of all steps that come nearer makes the whole way the first of the shortest.
        path.append(min([row for row in beside[here] if left[row] < left[here]]))
    return path


def things(book):
    """The rising list of all things."""
    return all_groups(rows_of(book[0]), linked_rows(book, linked(book[1])))


def odd_things(book):
    """The rising list of the things in which two rows of a house are."""
    return sorted([thing for thing in linked_rows(book, linked(book[1])) if is_odd(thing)])
