"""Plans: hands in groups, groups in groups, up to the whole."""

from nearlocks.errors import NoName
from nearlocks.kinds import is_tuple_of, is_whole_from

LETTERS = "abcdefghijklmnopqrstuvwxyz"
LONGEST_NAME = 8
LEAST_BOUND = 1


def is_name(thing):
    if not isinstance(thing, str):
        return False
    if not 1 <= len(thing) <= LONGEST_NAME:
        return False
    return all([letter in LETTERS for letter in thing])


def is_plan(thing):
    """Whether this is a group in which all names are unlike."""
    return group_fits(thing, {})


def group_fits(thing, seen):
    """Whether this is a group without the seen names; its names are seen from then on."""
    if not has_group_form(thing):
        return False
    name, bound, members = thing
    if not name_fits(name, seen):
        return False
    # The first fault ends it: things handed in may share parts so often that a look at all would take too long.
    for member in members:
        if not member_fits(member, seen):
            return False
    return True


def has_group_form(thing):
    if not is_tuple_of(thing, 3):
        return False
    name, bound, members = thing
    if not is_whole_from(bound, LEAST_BOUND):
        return False
    return isinstance(members, tuple) and len(members) > 0


def member_fits(thing, seen):
    if isinstance(thing, str):
        return name_fits(thing, seen)
    return group_fits(thing, seen)


def name_fits(thing, seen):
    if not is_name(thing) or thing in seen:
        return False
    seen[thing] = True
    return True


def hands_of(plan):
    """All hands' names, as they stand in the plan from the left."""
    return tuple([name for name, bound, path in all_in(plan) if bound is None])


def groups_of(plan):
    """All groups' names from the left, a group ahead of those in it."""
    return tuple([name for name, bound, path in all_in(plan) if bound is not None])


def bounds_of(plan):
    """All groups' bounds, as groups_of."""
    return tuple([bound for name, bound, path in all_in(plan) if bound is not None])


def path_of(plan, name):
    """The names of the groups around a hand or group, the nearest first."""
    # Only a text can be a name: other objects may answer == as they like.
    if isinstance(name, str):
        for known, bound, path in all_in(plan):
            if known == name:
                return path
    raise NoName(name)


def all_in(plan):
    """A list of (name, bound, path) of all hands and groups, from the left; a hand's bound is None."""
    return all_from(plan, ())


def all_from(group, around):
    name, bound, members = group
    rows = [(name, bound, around)]
    inside = (name, *around)
    for member in members:
        if isinstance(member, str):
            rows.append((member, None, inside))
        else:
            rows.extend(all_from(member, inside))
    return rows
