"""What the other files share: plain values, what is rising, and what hangs together."""

LONGEST_NAME = 8
FARTHEST_WORTH = 1000000

# The ends of the order of worths.
FIRST_WORTH = -1000000
LAST_WORTH = "zzzzzzzz"


def is_whole(thing):
    """Whether anything is a whole number: to Python a truth is an int too, here it is none."""
    return isinstance(thing, int) and not isinstance(thing, bool)


def is_name(thing):
    """Whether anything is a name."""
    if not isinstance(thing, str) or not 1 <= len(thing) <= LONGEST_NAME:
        return False
    return all(["a" <= sign <= "z" for sign in thing])


def is_worth(thing):
    """Whether anything is a worth (None is none)."""
    if is_whole(thing):
        return -FARTHEST_WORTH <= thing <= FARTHEST_WORTH
    return is_name(thing)


def is_tuple(thing, fewest, most):
    """Whether anything is a tuple with from fewest to most parts."""
    return isinstance(thing, tuple) and fewest <= len(thing) <= most


def is_pair(thing):
    """Whether anything is a tuple of two parts."""
    return isinstance(thing, tuple) and len(thing) == 2


def rises(members):
    """Whether each member is less than the next one; they must be such as compare."""
    return all([one < other for one, other in zip(members, members[1:])])


def neighbours(members, pairs):
    """For each member the list of those with which it is paired."""
    beside = {member: [] for member in members}
    for one, other in pairs:
        beside[one].append(other)
        beside[other].append(one)
    return beside


def distances(beside, start):
    """The number of steps from start to each member to which neighbours lead."""
    steps = {start: 0}
    edge = [start]
    while edge:
        further = []
        for member in edge:
            for near in beside[member]:
                if near not in steps:
                    steps[near] = steps[member] + 1
                    further.append(near)
        edge = further
    return steps


def linked(pairs):
    """The list, in no order, of the rising tuples of members of pairs that hang together."""
    group_of = {}
    started = []
    for one, other in pairs:
        if one in group_of:
            here = group_of[one]
        else:
            here = group_of[one] = [one]
            started.append(here)
        if other not in group_of:
            here.append(other)
            group_of[other] = here
        elif other not in here:
            there = group_of[other]
            here.extend(there)
            for member in there:
                group_of[member] = here
            # It is among the started ones still, and must not be told a second time.
            there.clear()
    return [tuple(sorted(group)) for group in started if group]


def group_with(found, member):
    """The one of linked groups in which a member is; without any it is alone."""
    for group in found:
        if member in group:
            return group
    return (member,)


def all_groups(members, found):
    """The rising list of linked groups and, each alone, of all other ones of the rising members."""
    first = {group[0]: group for group in found}
    later = {member: True for group in found for member in group[1:]}
    return [first.get(member, (member,)) for member in members if member not in later]


def is_odd(group):
    """Whether two members of a group, each called (house, ..), are of one house."""
    return len({name for name, part in group}) < len(group)
