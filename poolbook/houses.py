"""Houses with their tables, and the likes that make kinds of their columns."""

from poolbook.plain import all_groups, is_name, is_odd, is_pair, is_tuple, is_whole, is_worth, linked, rises

MOST_HOUSES = 4
MOST_COLUMNS = 5
MOST_ROWS = 8
MOST_LINKS = 12
LAST_ID = 999


def are_columns(thing):
    """Whether anything is the columns of a table."""
    if not is_tuple(thing, 1, MOST_COLUMNS):
        return False
    return all([is_name(name) for name in thing]) and rises(thing)


def is_id(thing):
    """Whether anything is an id of a row."""
    return is_whole(thing) and 0 <= thing <= LAST_ID


def is_row(columns, thing):
    """Whether anything is a row for these columns."""
    if not is_tuple(thing, len(columns), len(columns)):
        return False
    return all([worth is None or is_worth(worth) for worth in thing])


def is_numbered_row(columns, thing):
    """Whether anything is a pair of an id and a row for these columns."""
    return is_pair(thing) and is_id(thing[0]) and is_row(columns, thing[1])


def are_rows(columns, thing):
    """Whether anything is the rows of a table with these columns."""
    if not is_tuple(thing, 0, MOST_ROWS):
        return False
    if not all([is_numbered_row(columns, pair) for pair in thing]):
        return False
    # Ids are unlike, so they alone decide; the rows behind them may not even compare.
    return rises([number for number, row in thing])


def is_table(thing):
    """Whether anything is a table."""
    return is_pair(thing) and are_columns(thing[0]) and are_rows(thing[0], thing[1])


def is_house(thing):
    """Whether anything is a pair of a name and a table."""
    return is_pair(thing) and is_name(thing[0]) and is_table(thing[1])


def are_houses(thing):
    """Whether anything is houses."""
    if not is_tuple(thing, 1, MOST_HOUSES):
        return False
    if not all([is_house(pair) for pair in thing]):
        return False
    # Names are unlike, so they alone decide; the tables behind them may not even compare.
    return rises([name for name, table in thing])


def columns_of(houses):
    """The rising list of all columns, each (house, name)."""
    return [(name, column) for name, (columns, rows) in houses for column in columns]


def rows_of(houses):
    """The rising list of all rows, each (house, id)."""
    return [(name, number) for name, (columns, rows) in houses for number, row in rows]


def calls_column(houses, thing):
    """Whether anything calls a column of the houses."""
    if not is_pair(thing):
        return False
    house, own = thing
    return any([name == house and own in columns for name, (columns, rows) in houses])


def calls_row(houses, thing):
    """Whether anything calls a row of the houses."""
    # To Python 1 == True, so that a truth would be found among ids.
    if not is_pair(thing) or not is_whole(thing[1]):
        return False
    house, number = thing
    return any([name == house and number in dict(rows) for name, (columns, rows) in houses])


def is_link(calls, houses, thing):
    """Whether anything is a pair of what calls parts of unlike houses, the lesser one ahead."""
    if not is_pair(thing) or not all([calls(houses, part) for part in thing]):
        return False
    one, other = thing
    return one[0] < other[0]


def are_links(calls, houses, thing):
    """Whether anything is a rising tuple of such pairs: of columns likes, of rows ties or cuts."""
    if not is_tuple(thing, 0, MOST_LINKS):
        return False
    return all([is_link(calls, houses, pair) for pair in thing]) and rises(thing)


def are_likes(houses, thing):
    """Whether anything is likes of the houses."""
    return are_links(calls_column, houses, thing)


def kinds(houses, likes):
    """The rising list of all kinds."""
    return all_groups(columns_of(houses), linked(likes))


def odd_kinds(houses, likes):
    """The rising list of the kinds in which two columns of a house are."""
    return sorted([kind for kind in linked(likes) if is_odd(kind)])
