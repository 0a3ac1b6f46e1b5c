"""The fewest likes, or tied pairs, without which nothing is odd."""

from poolbook.errors import TooMany
from poolbook.houses import odd_kinds
from poolbook.plain import is_odd
from poolbook.ties import odd_things, tied

MOST_TIED = 12


def joined(group_of, one, other):
    """For each member its group, once these two hang together."""
    group = group_of[one] + group_of[other]
    return {member: group if member in group else group_of[member] for member in group_of}


def first_left_out(group_of, pairs, most):
    """The first tuple of at most so many pairs without which the others join no group that is odd, or None."""
    if not pairs:
        return ()
    one, other = pairs[0]
    if one in group_of[other]:
        # It joins nothing, so a lot with it is never one of the fewest.
        return first_left_out(group_of, pairs[1:], most)
    if most > 0:
        # Lots with this pair are ahead of those without it.
        rest = first_left_out(group_of, pairs[1:], most - 1)
        if rest is not None:
            return (pairs[0],) + rest
    if is_odd(group_of[one] + group_of[other]):
        return None
    return first_left_out(joined(group_of, one, other), pairs[1:], most)


def fewest_within(group, pairs):
    """The fewest of a group's rising pairs without which none of what is left of it is odd, of as few the first."""
    alone = {member: (member,) for member in group}
    most = 0
    found = first_left_out(alone, pairs, most)
    while found is None:
        most += 1
        found = first_left_out(alone, pairs, most)
    return found


def fewest_pairs(odd_groups, pairs):
    """The fewest of the rising pairs without which no group is odd: a rising tuple, of as few the first."""
    found = []
    # A pair turns only its own group, and what is first for each group is, together, first for all.
    for group in odd_groups:
        found.extend(fewest_within(group, [pair for pair in pairs if pair[0] in group]))
    return tuple(sorted(found))


def fewest_likes(houses, likes):
    """The fewest of the likes without which no kind is odd."""
    return fewest_pairs(odd_kinds(houses, likes), likes)


def fewest_ties(book):
    """The fewest tied pairs that, were they cut too, leave no thing odd."""
    odd = odd_things(book)
    rows = [row for thing in odd for row in thing]
    within = [pair for pair in tied(book) if pair[0] in rows]
    if len(within) > MOST_TIED:
        raise TooMany(MOST_TIED)
    return fewest_pairs(odd, within)
