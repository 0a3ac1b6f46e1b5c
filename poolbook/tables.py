"""Rules, and the one table: what is shown of each kind of each thing."""

from poolbook.errors import Odd
from poolbook.houses import calls_one, columns_of, kinds
from poolbook.plain import is_name, is_odd, is_pair, is_tuple, rises
from poolbook.ties import things, told_worths

MOST_CHOICES = 8


def in_order(worth):
    """What puts worths in order: numbers ahead of names."""
    return isinstance(worth, str), worth


def first_told(worths):
    """The first of worths that are told in order of trust."""
    return worths[0]


def greatest_told(worths):
    """The last worth in order."""
    return max(worths, key=in_order)


def least_told(worths):
    """The first worth in order."""
    return min(worths, key=in_order)


def most_told(worths):
    """The worth told most often; of several max takes the first one, which is first in trust."""
    return max(worths, key=lambda worth: worths.count(worth))


def only_told(worths):
    """The worth that is told where no other one is, else None."""
    return worths[0] if worths.count(worths[0]) == len(worths) else None


CHOOSERS = {
    "first": first_told,
    "greatest": greatest_told,
    "least": least_told,
    "most": most_told,
    "only": only_told,
}


def is_trust(names, thing):
    """Whether anything is a tuple of all of these rising names, in any order."""
    if not is_tuple(thing, len(names), len(names)) or not all([is_name(name) for name in thing]):
        return False
    return sorted(thing) == names


def is_choice(columns, thing):
    """Whether anything is a pair of one of the columns and a word."""
    if not is_pair(thing) or not calls_one(columns, thing[0]):
        return False
    # What is no text may not even be looked up.
    return isinstance(thing[1], str) and thing[1] in CHOOSERS


def are_choices(columns, thing):
    """Whether anything is choices for kinds that are called by these columns."""
    if not is_tuple(thing, 0, MOST_CHOICES):
        return False
    if not all([is_choice(columns, choice) for choice in thing]):
        return False
    # Columns are unlike, so they alone decide.
    return rises([column for column, word in thing])


def are_rules(book, thing):
    """Whether anything is rules of the book."""
    if not is_pair(thing):
        return False
    trust, choices = thing
    houses = book[0]
    return is_trust([name for name, table in houses], trust) and are_choices(columns_of(houses), choices)


def sound_groups(book):
    """All kinds and all things of a book; Odd, with the first odd one, where one is odd."""
    all_kinds = kinds(book[0], book[1])
    all_things = things(book)
    odd = [group for group in all_kinds + all_things if is_odd(group)]
    if odd:
        raise Odd(odd[0])
    return all_kinds, all_things


def word_of(choices, kind):
    """The word of a kind's rule."""
    words = [word for column, word in choices if column in kind]
    return words[0] if words else "first"


def told_by_houses(told, thing):
    """For each house whose row in the thing tells a worth, of what is told by rows, this worth."""
    return {row[0]: told[row] for row in thing if row in told}


def chosen(trust, word, by_house):
    """The worth that a word chooses of what houses tell, or None."""
    worths = [by_house[name] for name in trust if name in by_house]
    if not worths:
        return None
    choose = CHOOSERS[word]
    return choose(worths)


def one_table(book, rules):
    """The rising list of pairs of a thing and the tuple of the worths shown of it, one for each kind."""
    trust, choices = rules
    all_kinds, all_things = sound_groups(book)
    told_of_kinds = [(word_of(choices, kind), told_worths(book[0], kind)) for kind in all_kinds]
    table = []
    for thing in all_things:
        shown = [chosen(trust, word, told_by_houses(told, thing)) for word, told in told_of_kinds]
        table.append((thing, tuple(shown)))
    return table


def are_unlike(told, thing):
    """Whether rows of the thing tell unlike worths."""
    return len(set([told[row] for row in thing if row in told])) > 1


def at_odds(book):
    """The rising list of (thing, place of a kind) at which unlike worths are told."""
    all_kinds, all_things = sound_groups(book)
    told_of_kinds = [told_worths(book[0], kind) for kind in all_kinds]
    cells = [(thing, place) for thing in all_things for place in range(len(all_kinds))]
    return [(thing, place) for thing, place in cells if are_unlike(told_of_kinds[place], thing)]
