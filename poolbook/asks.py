"""Asks: which things meet them by what is shown, by every choice, and by some; and sums over those that do."""

from poolbook.houses import calls_column, rows_of
from poolbook.plain import all_groups, group_with, is_tuple, is_worth, rises
from poolbook.tables import in_order, shown_worths, sound_links
from poolbook.ties import told_worths

MOST_PARTS = 3


def those_above(worths, bound):
    """Of worths by rows those that are greater than the bound."""
    place = in_order(bound)
    return {row: worths[row] for row in worths if in_order(worths[row]) > place}


def those_below(worths, bound):
    """Of worths by rows those that are less than the bound."""
    place = in_order(bound)
    return {row: worths[row] for row in worths if in_order(worths[row]) < place}


def those_same(worths, bound):
    """Of worths by rows those that are the bound."""
    return {row: worths[row] for row in worths if worths[row] == bound}


def those_other(worths, bound):
    """Of worths by rows those that are not the bound."""
    return {row: worths[row] for row in worths if worths[row] != bound}


MEETING = {
    "above": those_above,
    "below": those_below,
    "is": those_same,
    "not": those_other,
}


def is_part(houses, thing):
    """Whether anything is a column of the houses with a word and a worth."""
    if not is_tuple(thing, 3, 3) or not calls_column(houses, thing[0]):
        return False
    # What is no text may not even be looked up.
    return isinstance(thing[1], str) and thing[1] in MEETING and is_worth(thing[2])


def is_ask(book, thing):
    """Whether anything is an ask of the book."""
    if not is_tuple(thing, 0, MOST_PARTS) or not all([is_part(book[0], part) for part in thing]):
        return False
    # A number and a name do not compare by themselves.
    return rises([(column, word, in_order(worth)) for column, word, worth in thing])


def tests_by_kind(linked_kinds, ask):
    """For each kind that the ask calls the list of the (word, worth) that one and the same worth must meet."""
    tests_of = {}
    for column, word, worth in ask:
        kind = group_with(linked_kinds, column)
        if kind in tests_of:
            tests_of[kind].append((word, worth))
        else:
            tests_of[kind] = [(word, worth)]
    return tests_of


def meeting(worths, tests):
    """Of worths by rows those that meet all tests."""
    met = worths
    for word, bound in tests:
        those = MEETING[word]
        met = those(met, bound)
    return met


def things_in_all(houses, linked_things, lots):
    """The rising list of the things whose first row is in each lot."""
    firsts = sorted(lots[0]) if lots else rows_of(houses)
    for lot in lots[1:]:
        firsts = [row for row in firsts if row in lot]
    return all_groups(firsts, linked_things)


def shown_lots(houses, rules, tests_of, linked_things):
    """For each kind asked the worths shown that meet its tests, by the first rows of their things."""
    return [meeting(shown_worths(houses, rules, kind, linked_things), tests) for kind, tests in tests_of.items()]


def shown(book, rules, ask):
    """The rising list of the things that meet the ask by the worths shown."""
    linked_kinds, linked_things = sound_links(book)
    lots = shown_lots(book[0], rules, tests_by_kind(linked_kinds, ask), linked_things)
    return things_in_all(book[0], linked_things, lots)


def first_rows(linked_things):
    """For each row of a thing of several rows the first row of it."""
    return {row: thing[0] for thing in linked_things for row in thing}


def told_lots(houses, tests_of, linked_things):
    """For each kind asked the first rows of things of which a worth told meets its tests, and of which one does not."""
    first_of = first_rows(linked_things)
    lots = []
    for kind, tests in tests_of.items():
        told = told_worths(houses, kind)
        met = meeting(told, tests)
        good = {first_of.get(row, row): True for row in met}
        bad = {first_of.get(row, row): True for row in told if row not in met}
        lots.append((good, bad))
    return lots


def certain(book, ask):
    """The rising list of the things that meet the ask by every choice."""
    linked_kinds, linked_things = sound_links(book)
    lots = told_lots(book[0], tests_by_kind(linked_kinds, ask), linked_things)
    sure_lots = [{row: True for row in good if row not in bad} for good, bad in lots]
    return things_in_all(book[0], linked_things, sure_lots)


def possible(book, ask):
    """The rising list of the things that meet the ask by some choice."""
    linked_kinds, linked_things = sound_links(book)
    lots = told_lots(book[0], tests_by_kind(linked_kinds, ask), linked_things)
    # What one chooses of a kind binds nothing that one chooses of another one.
    return things_in_all(book[0], linked_things, [good for good, bad in lots])


def total(book, rules, ask, column):
    """The sum of a kind's numbers over all things that meet the ask, by the worths shown."""
    linked_kinds, linked_things = sound_links(book)
    tests_of = tests_by_kind(linked_kinds, ask)
    kind = group_with(linked_kinds, column)
    # The worth that is added must itself meet what is asked of its kind.
    worths = meeting(shown_worths(book[0], rules, kind, linked_things), tests_of.pop(kind, []))
    for lot in shown_lots(book[0], rules, tests_of, linked_things):
        worths = {row: worths[row] for row in worths if row in lot}
    return sum([worth for worth in worths.values() if isinstance(worth, int)])


def numbers_added(told, met, first_of):
    """For each thing, by its first row, of which worths are told the list of what each of them adds, were it chosen."""
    added_of = {}
    for row, worth in told.items():
        added = worth if row in met and isinstance(worth, int) else 0
        first = first_of.get(row, row)
        if first in added_of:
            added_of[first].append(added)
        else:
            added_of[first] = [added]
    return added_of


def ends(book, ask, column):
    """The least and the greatest of the sums, over all things that meet the ask, by choices of all things."""
    linked_kinds, linked_things = sound_links(book)
    tests_of = tests_by_kind(linked_kinds, ask)
    kind = group_with(linked_kinds, column)
    told = told_worths(book[0], kind)
    met = meeting(told, tests_of.pop(kind, []))
    lots = told_lots(book[0], tests_of, linked_things)
    least = greatest = 0
    for first, added in numbers_added(told, met, first_rows(linked_things)).items():
        if all([first in good for good, bad in lots]):
            # By a choice of the other kinds it may still not meet the ask.
            either = added + [0] if any([first in bad for good, bad in lots]) else added
            least += min(either)
            greatest += max(either)
    return least, greatest
