"""Plans: hands in groups, groups in groups, up to the whole."""

from nearlocks.errors import NoName
from nearlocks.forms import is_letters
from nearlocks.kinds import is_tuple_of, is_whole_from

LONGEST_NAME = 8
LEAST_BOUND = 1


def is_name(thing):
    return isinstance(thing, str) and len(thing) <= LONGEST_NAME and is_letters(thing)


def is_plan(thing):
    """Whether this is a group in which all names are unlike."""
    if isinstance(thing, str):
        return False
    seen = {}
    waiting = [thing]
    # The first fault ends it: things handed in may share parts so often that a look at all would take too long.
    while waiting:
        member = waiting.pop()
        if not member_fits(member, seen):
            return False
        if not isinstance(member, str):
            waiting.extend(member[2])
    return True


def member_fits(thing, seen):
    """Whether this is a hand, or like a group but for its members, without the seen names; its name is seen then."""
    name = thing
    if not isinstance(thing, str):
        if not has_group_form(thing):
            return False
        name = thing[0]
    if not is_name(name) or name in seen:
        return False
    seen[name] = True
    return True


def has_group_form(thing):
    if not is_tuple_of(thing, 3):
        return False
    name, bound, members = thing
    if not is_whole_from(bound, LEAST_BOUND):
        return False
    return isinstance(members, tuple) and len(members) > 0


def hands_of(plan):
    """All hands' names, as they stand in the plan from the left."""
    return tuple([name for name, bound, path in all_in(plan) if bound is None])


def groups_of(plan):
    """All groups' names from the left, a group ahead of those in it."""
    return tuple([name for name, bound, path in all_in(plan) if bound is not None])


def bounds_of(plan):
    """All groups' bounds, as groups_of."""
    return tuple([bound for name, bound, path in all_in(plan) if bound is not None])


def path_of(plan, name):
    """The names of the groups around a hand or group, the nearest first."""
    # Only a text can be a name: other objects may answer == as they like.
    if isinstance(name, str):
        for known, bound, path in all_in(plan):
            if known == name:
                return path
    raise NoName(name)


def all_in(plan):
    """A list of (name, bound, path) of all hands and groups, from the left; a hand's bound is None."""
    return all_from(plan, ())


def all_from(group, around):
    name, bound, members = group
    rows = [(name, bound, around)]
    inside = (name, *around)
    for member in members:
        if isinstance(member, str):
            rows.append((member, None, inside))
        else:
            rows.extend(all_from(member, inside))
    return rows
