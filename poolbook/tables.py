"""Rules, and the one table: what is shown of each kind of each thing."""

from poolbook.errors import Odd
from poolbook.houses import calls_column, columns_of, rows_of
from poolbook.plain import all_groups, is_name, is_odd, is_pair, is_tuple, linked, rises
from poolbook.ties import linked_rows, told_worths

MOST_CHOICES = 8


def in_order(worth):
    """What puts worths in order: numbers ahead of names."""
    return isinstance(worth, str), worth


def first_told(worths):
    """The first of worths that are told in order of trust."""
    return worths[0]


def greatest_told(worths):
    """The last worth in order."""
    return max(worths, key=in_order)


def least_told(worths):
    """The first worth in order."""
    return min(worths, key=in_order)


def most_told(worths):
    """The worth told most often; of several max takes the first one, which is first in trust."""
    return max(worths, key=lambda worth: worths.count(worth))


def only_told(worths):
    """The worth that is told where no other one is, else None."""
    return worths[0] if worths.count(worths[0]) == len(worths) else None


CHOOSERS = {
    "first": first_told,
    "greatest": greatest_told,
    "least": least_told,
    "most": most_told,
    "only": only_told,
}


def is_trust(names, thing):
    """Whether anything is a tuple of all of these rising names, in any order."""
    if not is_tuple(thing, len(names), len(names)) or not all([is_name(name) for name in thing]):
        return False
    return sorted(thing) == names


def is_choice(houses, thing):
    """Whether anything is a pair of a column of the houses and a word."""
    if not is_pair(thing) or not calls_column(houses, thing[0]):
        return False
    # What is no text may not even be looked up.
    return isinstance(thing[1], str) and thing[1] in CHOOSERS


def are_choices(houses, thing):
    """Whether anything is choices for kinds that are called by columns of the houses."""
    if not is_tuple(thing, 0, MOST_CHOICES):
        return False
    if not all([is_choice(houses, choice) for choice in thing]):
        return False
    # Columns are unlike, so they alone decide.
    return rises([column for column, word in thing])


def are_rules(book, thing):
    """Whether anything is rules of the book."""
    if not is_pair(thing):
        return False
    trust, choices = thing
    houses = book[0]
    return is_trust([name for name, table in houses], trust) and are_choices(houses, choices)


def refuse_odd(found):
    """Odd, with the first odd one, where one of linked groups is odd."""
    odd = [group for group in found if is_odd(group)]
    if odd:
        raise Odd(min(odd))


def sound_links(book):
    """The kinds of several columns and the things of several rows, both in no order; Odd where one is odd."""
    linked_kinds = linked(book[1])
    refuse_odd(linked_kinds)
    linked_things = linked_rows(book, linked_kinds)
    refuse_odd(linked_things)
    return linked_kinds, linked_things


def word_of(choices, kind):
    """The word of a kind's rule."""
    for column, word in choices:
        if column in kind:
            return word
    return "first"


def chosen(trust, word, by_house):
    """The worth that a word chooses of what houses tell (None tells nothing), or None."""
    worths = [by_house[name] for name in trust if by_house.get(name) is not None]
    if not worths:
        return None
    choose = CHOOSERS[word]
    return choose(worths)


def shown_worths(houses, rules, kind, linked_things):
    """For each thing, called by its first row, of which a worth of the kind is shown, this worth."""
    trust, choices = rules
    word = word_of(choices, kind)
    # By each word what a row alone tells is shown, so that only things of several rows have to choose.
    worths = told_worths(houses, kind)
    for thing in linked_things:
        by_house = {row[0]: worths.pop(row) for row in thing if row in worths}
        worth = chosen(trust, word, by_house)
        if worth is not None:
            worths[thing[0]] = worth
    return worths


def one_table(book, rules):
    """The rising list of pairs of a thing and the tuple of the worths shown of it, one for each kind."""
    linked_kinds, linked_things = sound_links(book)
    houses = book[0]
    all_kinds = all_groups(columns_of(houses), linked_kinds)
    shown_of_kinds = [shown_worths(houses, rules, kind, linked_things) for kind in all_kinds]
    all_things = all_groups(rows_of(houses), linked_things)
    return [(thing, tuple([worths.get(thing[0]) for worths in shown_of_kinds])) for thing in all_things]


def are_unlike(told, thing):
    """Whether rows of the thing tell unlike worths."""
    return len({told[row] for row in thing if row in told}) > 1


def at_odds(book):
    """The rising list of (thing, place of a kind) at which unlike worths are told."""
    linked_kinds, linked_things = sound_links(book)
    all_kinds = all_groups(columns_of(book[0]), linked_kinds)
    told_of_kinds = [told_worths(book[0], kind) for kind in all_kinds]
    cells = [(thing, place) for thing in sorted(linked_things) for place in range(len(all_kinds))]
    return [(thing, place) for thing, place in cells if are_unlike(told_of_kinds[place], thing)]
