"""A pool: a book that comes about deed by deed."""

from poolbook.errors import Full, NoColumn, NoColumns, NoHouse, NoKey, NoName, NoRow, Same, Taken
from poolbook.houses import MOST_HOUSES, MOST_LINKS, MOST_ROWS, are_columns, calls_column, calls_row, is_id, is_row
from poolbook.plain import is_name
from poolbook.ties import MOST_KEYS, is_key


def table_of(houses, name):
    """The table of the house that anything names; NoHouse where it names none."""
    for own, table in houses:
        if own == name:
            return table
    raise NoHouse("no house of the pool")


def with_rows(houses, name, rows):
    """The houses, the rows of one of them replaced."""
    return tuple([(own, (table[0], rows) if own == name else table) for own, table in houses])


def with_one(members, member, most):
    """The rising members with one more among them; Full where they are as many as may be."""
    if len(members) >= most:
        raise Full("no more of these may come")
    return tuple(sorted(members + (member,)))


def with_link(links, one, other):
    """The rising links with that of both, in whichever order they are handed in, among them; Same, Taken, Full."""
    if one[0] == other[0]:
        raise Same("both are of one house")
    link = (one, other) if one < other else (other, one)
    if link in links:
        raise Taken("it is there already")
    return with_one(links, link, MOST_LINKS)


def without_row(links, row):
    """The links but those that a row has."""
    return tuple([link for link in links if row not in link])


def refuse_no_rows(houses, one, other):
    """NoRow where one of both calls no row of the houses."""
    if not calls_row(houses, one) or not calls_row(houses, other):
        raise NoRow("no row of the pool")


class Pool:
    """Houses, likes, keys, ties and cuts, each a rising tuple, so that a book that was told never changes."""

    def __init__(self):
        self.houses = ()
        self.likes = ()
        self.told_keys = ()
        self.ties = ()
        self.cuts = ()

    def __eq__(self, other):
        # Pools without houses have nothing else either.
        return isinstance(other, Pool) and self.parts() == other.parts()

    def come(self, name, columns):
        """A house comes, with columns and no rows; NoName, Taken, NoColumns, Full."""
        if not is_name(name):
            raise NoName("no name")
        if any([own == name for own, table in self.houses]):
            raise Taken("there is a house of this name")
        if not are_columns(columns):
            raise NoColumns("no columns of a table")
        self.houses = with_one(self.houses, (name, (columns, ())), MOST_HOUSES)

    def put(self, name, number, row):
        """A row is put in, or in the place of what had its id; NoHouse, NoRow, Full."""
        columns, rows = table_of(self.houses, name)
        if not is_id(number) or not is_row(columns, row):
            raise NoRow("no id, or no row of the house")
        others = tuple([pair for pair in rows if pair[0] != number])
        self.houses = with_rows(self.houses, name, with_one(others, (number, row), MOST_ROWS))

    def out(self, name, number):
        """A row is taken out, with its ties and cuts; NoHouse, NoRow."""
        columns, rows = table_of(self.houses, name)
        row = (name, number)
        if not calls_row(self.houses, row):
            raise NoRow("no row of the house")
        self.houses = with_rows(self.houses, name, tuple([pair for pair in rows if pair[0] != number]))
        self.ties = without_row(self.ties, row)
        self.cuts = without_row(self.cuts, row)

    def like(self, one, other):
        """Two columns are told to be alike; NoColumn, Same, Taken, Full."""
        if not calls_column(self.houses, one) or not calls_column(self.houses, other):
            raise NoColumn("no column of the pool")
        self.likes = with_link(self.likes, one, other)

    def tie(self, one, other):
        """Two rows are told to be the same; NoRow, Same, Taken, Full."""
        refuse_no_rows(self.houses, one, other)
        self.ties = with_link(self.ties, one, other)

    def cut(self, one, other):
        """Two rows are told not to be tied; NoRow, Same, Taken, Full."""
        refuse_no_rows(self.houses, one, other)
        self.cuts = with_link(self.cuts, one, other)

    def key(self, columns):
        """A key is told; NoKey, Taken, Full."""
        if not is_key(self.houses, columns):
            raise NoKey("no key for the pool")
        if columns in self.told_keys:
            raise Taken("it is there already")
        self.told_keys = with_one(self.told_keys, columns, MOST_KEYS)

    def parts(self):
        """What a book is made of, even where no house has come."""
        return self.houses, self.likes, self.told_keys, self.ties, self.cuts

    def book(self):
        """The book; NoHouse where no house has come."""
        if not self.houses:
            raise NoHouse("no house has come")
        return self.parts()
