"""What turns from one book to another."""

from poolbook.tables import one_table


def turned(one, rules, other, more):
    """The rising list of (thing, before, after) of all things whose rows in the two one tables are unlike."""
    before = dict(one_table(one, rules))
    after = dict(one_table(other, more))
    gone_or_changed = [thing for thing in before if before[thing] != after.get(thing)]
    new = [thing for thing in after if thing not in before]
    return [(thing, before.get(thing), after.get(thing)) for thing in sorted(gone_or_changed + new)]
