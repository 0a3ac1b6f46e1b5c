"""Shown worths led back: who tells them, and which houses make them sure."""

from poolbook.errors import NoKind, NoThing
from poolbook.houses import calls_column, calls_row
from poolbook.plain import FIRST_WORTH, LAST_WORTH, group_with
from poolbook.tables import chosen, sound_links, word_of


def is_thing(houses, linked_things, thing):
    """Whether anything is a thing of the houses."""
    if not isinstance(thing, tuple) or not thing or not calls_row(houses, thing[0]):
        return False
    if thing != group_with(linked_things, thing[0]):
        return False
    # To Python 1 == True, so that truths would be found among ids.
    return not any([number is True or number is False for name, number in thing])


def called_kind(book, thing, column):
    """The kind that a column calls; refused are Odd, NoThing, NoKind."""
    linked_kinds, linked_things = sound_links(book)
    if not is_thing(book[0], linked_things, thing):
        raise NoThing("no thing of the book")
    if not calls_column(book[0], column):
        raise NoKind("no column of the book")
    return group_with(linked_kinds, column)


def worths_of(houses, kind, thing):
    """For each house, in order, that has a row in the thing and a column of the kind, its worth there, or None."""
    own = dict(kind)
    numbers = dict(thing)
    worths = {}
    for name, (columns, rows) in houses:
        if name in own and name in numbers:
            worths[name] = dict(rows)[numbers[name]][columns.index(own[name])]
    return worths


def why(book, rules, thing, column):
    """The worth shown, the rule's word, the (row, column) of all that tell this worth, and of all that tell another."""
    kind = called_kind(book, thing, column)
    trust, choices = rules
    word = word_of(choices, kind)
    worths = worths_of(book[0], kind, thing)
    worth = chosen(trust, word, worths)
    own_column = {own[0]: own for own in kind}
    agreeing = []
    others = []
    for row in thing:
        told = worths.get(row[0])
        if told is not None:
            cells = agreeing if told == worth else others
            cells.append((row, own_column[row[0]]))
    return worth, word, agreeing, others


def sure_of_first(trust, worths):
    """The first in trust that tells a worth, and all ahead of it, which else might; all where none tells one."""
    needed = []
    for name in trust:
        if name in worths:
            needed.append(name)
            if worths[name] is not None:
                break
    return tuple(sorted(needed))


def sure_of_end(worths, end):
    """The first that tells the end of the order, which nobody can outdo; without any all, as each might outdo them."""
    for name in worths:
        if worths[name] == end:
            return (name,)
    return tuple(worths)


def sure_of_greatest(trust, worths):
    """The houses that make the greatest worth sure."""
    return sure_of_end(worths, LAST_WORTH)


def sure_of_least(trust, worths):
    """The houses that make the least worth sure."""
    return sure_of_end(worths, FIRST_WORTH)


def sure_of_only(trust, worths):
    """The first two that tell unlike worths, so that none is shown ever; without any all, as each might be unlike."""
    tellers = [name for name in worths if worths[name] is not None]
    for at, one in enumerate(tellers):
        for other in tellers[at + 1:]:
            if worths[one] != worths[other]:
                return one, other
    return tuple(worths)


def lots(names, many):
    """The list, in order, of all rising tuples of so many of the rising names."""
    found = [()]
    for turn in range(many):
        found = [lot + (name,) for lot in found for name in names if not lot or lot[-1] < name]
    return found


def outdo(trust, agreeing, against):
    """Whether by "most" those that agree prevail over those that tell another worth."""
    if len(agreeing) != len(against):
        return len(agreeing) > len(against)
    return [name for name in trust if name in agreeing or name in against][0] in agreeing


def is_sure_of_most(trust, worths, shown, lot):
    """Whether by the houses of the lot the same is told most whatever all others tell."""
    agreeing = [name for name in lot if worths[name] == shown]
    # The others come farthest where all of them tell the same: what some of the lot tell, or what nobody does.
    free = [name for name in worths if name not in lot]
    rivals = [worths[name] for name in lot if worths[name] is not None and worths[name] != shown]
    backed = [free + [name for name in lot if worths[name] == rival] for rival in rivals]
    return all([outdo(trust, agreeing, against) for against in [free] + backed])


def sure_of_most(trust, worths):
    """The fewest that make the worth that is told most sure, of as few the first; all where none is told."""
    shown = chosen(trust, "most", worths)
    if shown is None:
        return tuple(worths)
    many_agree = list(worths.values()).count(shown)
    # All others together must not be more than those of the lot that agree: than the lot, and than all that agree.
    fewest = max((len(worths) + 1) // 2, len(worths) - many_agree)
    for many in range(fewest, len(worths)):
        for lot in lots(list(worths), many):
            if is_sure_of_most(trust, worths, shown, lot):
                return lot
    return tuple(worths)


SURE_OF = {
    "first": sure_of_first,
    "greatest": sure_of_greatest,
    "least": sure_of_least,
    "most": sure_of_most,
    "only": sure_of_only,
}


def sure(book, rules, thing, column):
    """The fewest houses that make what is shown sure: a rising tuple, of as few the first."""
    kind = called_kind(book, thing, column)
    trust, choices = rules
    # Only the houses in here may tell anything.
    worths = worths_of(book[0], kind, thing)
    sure_of_word = SURE_OF[word_of(choices, kind)]
    return sure_of_word(trust, worths)
