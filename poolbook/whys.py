"""Shown worths led back: who tells them, and which houses make them sure."""

from poolbook.errors import NoKind, NoThing
from poolbook.houses import calls_one, columns_of
from poolbook.plain import FARTHEST_WORTH, LONGEST_NAME
from poolbook.tables import chosen, sound_groups, told_by_houses, word_of
from poolbook.ties import told_worths


def is_thing(all_things, thing):
    """Whether anything is one of all things."""
    if not isinstance(thing, tuple):
        return False
    rows = [row for group in all_things for row in group]
    # Row by row first: to Python 1 == True, so that truths would be found among ids.
    return all([calls_one(rows, row) for row in thing]) and thing in all_things


def called_kind(book, thing, column):
    """The kind that a column calls; refused are Odd, NoThing, NoKind."""
    all_kinds, all_things = sound_groups(book)
    if not is_thing(all_things, thing):
        raise NoThing("no thing of the book")
    if not calls_one(columns_of(book[0]), column):
        raise NoKind("no column of the book")
    return [kind for kind in all_kinds if column in kind][0]


def why(book, rules, thing, column):
    """The worth shown, the rule's word, the (row, column) of all that tell this worth, and of all that tell another."""
    kind = called_kind(book, thing, column)
    trust, choices = rules
    word = word_of(choices, kind)
    told = told_worths(book[0], kind)
    worth = chosen(trust, word, told_by_houses(told, thing))
    own_column = {name: (name, own) for name, own in kind}
    tellers = [row for row in thing if row in told]
    agreeing = [(row, own_column[row[0]]) for row in tellers if told[row] == worth]
    others = [(row, own_column[row[0]]) for row in tellers if told[row] != worth]
    return worth, word, agreeing, others


def lots(members, many):
    """The list, in order, of all tuples of so many of the members, each in their order."""
    if many == 0:
        return [()]
    found = []
    for at, member in enumerate(members):
        found.extend([(member,) + rest for rest in lots(members[at + 1:], many - 1)])
    return found


def worths_that_matter(by_house):
    """Worths by which others could turn what is shown: those told, and the ends of the order."""
    # One that nobody tells turns nothing more: one of the ends, at least, is not what is shown either.
    return [-FARTHEST_WORTH, "z" * LONGEST_NAME] + list(by_house.values())


def is_sure(trust, word, by_house, speakers, lot):
    """Whether by the houses of the lot the same is shown whatever the other speakers tell."""
    shown = chosen(trust, word, by_house)
    kept = {name: by_house[name] for name in lot if name in by_house}
    free = [name for name in speakers if name not in lot]
    # If the free ones can turn what is shown at all, they can by telling all the same, or nothing: no worth comes ahead
    # of another more easily than where all of them tell it.
    guesses = [{}] + [{name: worth for name in free} for worth in worths_that_matter(by_house)]
    return all([chosen(trust, word, {**kept, **guess}) == shown for guess in guesses])


def sure(book, rules, thing, column):
    """The fewest houses that make what is shown sure: a rising tuple, of as few the first."""
    kind = called_kind(book, thing, column)
    trust, choices = rules
    word = word_of(choices, kind)
    by_house = told_by_houses(told_worths(book[0], kind), thing)
    with_column = [name for name, own in kind]
    # Only these may tell anything; as no thing is odd they rise.
    speakers = [name for name, number in thing if name in with_column]
    for many in range(len(speakers)):
        for lot in lots(speakers, many):
            if is_sure(trust, word, by_house, speakers, lot):
                return lot
    return tuple(speakers)
