"""What the other files share: plain values, what is rising, and what hangs together."""

LONGEST_NAME = 8
FARTHEST_WORTH = 1000000


def is_whole(thing):
    """Whether anything is a whole number: to Python a truth is an int too, here it is none."""
    return isinstance(thing, int) and not isinstance(thing, bool)


def is_name(thing):
    """Whether anything is a name."""
    if not isinstance(thing, str) or not 1 <= len(thing) <= LONGEST_NAME:
        return False
    return all(["a" <= sign <= "z" for sign in thing])


def is_worth(thing):
    """Whether anything is a worth (None is none)."""
    if is_whole(thing):
        return -FARTHEST_WORTH <= thing <= FARTHEST_WORTH
    return is_name(thing)


def is_tuple(thing, fewest, most):
    """Whether anything is a tuple with from fewest to most parts."""
    return isinstance(thing, tuple) and fewest <= len(thing) <= most


def is_pair(thing):
    """Whether anything is a tuple of two parts."""
    return is_tuple(thing, 2, 2)


def rises(members):
    """Whether each member is less than the next one; they must be such as compare."""
    return all([one < other for one, other in zip(members, members[1:])])


def neighbours(members, pairs):
    """For each member the list of those with which it is paired."""
    beside = {member: [] for member in members}
    for one, other in pairs:
        beside[one].append(other)
        beside[other].append(one)
    return beside


def distances(beside, start):
    """The number of steps from start to each member to which neighbours lead."""
    steps = {start: 0}
    edge = [start]
    while edge:
        further = []
        for member in edge:
            for near in beside[member]:
                if near not in steps:
                    steps[near] = steps[member] + 1
                    further.append(near)
        edge = further
    return steps


def groups(members, pairs):
    """The rising list of the rising tuples of members that hang together by pairs."""
    beside = neighbours(members, pairs)
    placed = {}
    found = []
    for member in sorted(members):
        if member not in placed:
            group = tuple(sorted(list(distances(beside, member))))
            found.append(group)
            for near in group:
                placed[near] = True
    return found


def is_odd(group):
    """Whether two members of a group, each called (house, ..), are of one house."""
    names = [member[0] for member in group]
    return len(set(names)) < len(names)
