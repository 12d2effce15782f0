"""Counting: how many others come ahead of one at most, and a script that brings just so many."""

from nearlocks.errors import NoName, NotWaiting, Uneven
from nearlocks.houses import House
from nearlocks.kinds import is_known
from nearlocks.plans import hands_of

# A hand's program in which it takes and lets go without end.
LOOP = (("take", None), ("let",), ("goto", 0))


def turn_of(plan, name):
    """The most comings in one turn of this hand or group; None of the whole."""
    if is_known(name, (plan[0],)):
        return None
    turns = turns_in(plan)
    if not is_known(name, turns):
        raise NoName(name)
    return turns[name]


def turns_in(group):
    """A dict of the turns of all hands and groups in this group."""
    turns = {}
    for member in group[2]:
        if isinstance(member, str):
            turns[member] = 1
        else:
            turns[member[0]] = member_turn(member)
            turns.update(turns_in(member))
    return turns


def member_turn(member):
    # A hand can't follow on itself: where it is the only one, its letting go ends the turn, whatever the bound.
    if isinstance(member, str) or len(hands_of(member)) == 1:
        return 1
    name, bound, members = member
    return bound * max([member_turn(one) for one in members])


def is_even(plan):
    """Whether in each group, but the whole, all members have one turn."""
    return all([is_level(member) for member in plan[2]])


def is_level(member):
    if isinstance(member, str):
        return True
    turns = [member_turn(one) for one in member[2]]
    return min(turns) == max(turns) and is_even(member)


def ahead(house, name):
    """The most other hands' comings from now on ahead of this one's, whatever the others do.

    All comings are counted from the beginning of the turn that the whole's holder has by now, and those that are past
    are taken off: so each turn counts in full.
    """
    refuse_other(house, name)
    turns = turns_in(house.plan)
    *groups, whole = house.paths[name]
    many = 0
    rounds = 0
    member = name
    for group in groups:
        rounds, before = divmod(turns_before(house, member, group, rounds), house.bounds[group])
        many += before * turns[member]
        member = group
    row = row_of(house, whole)
    many += sum([turns[one] for one in row[:row.index(member)]])
    many += rounds * sum([turns[one] for one in members_of(house, whole)])
    return many - past_comings(house, turns, row[0])


def refuse_other(house, name):
    """Refuses one that is no hand, one that doesn't wait, a plan that isn't even."""
    if not is_known(name, house.hands):
        raise NoName(name)
    row, last, how, looks = house.hands[name]
    if how not in ("loose", "waits"):
        raise NotWaiting()
    if not is_even(house.plan):
        raise Uneven()


def turns_before(house, member, group, rounds):
    """How many turns of members this group has, from its own turn's beginning on, ahead of the member's turn.

    That turn of the member is meant to which it comes when it has handed over so many times: each time all others of
    the group have a turn ahead of its next one.
    """
    holder, count, places = house.groups[group]
    past = max(count, 1) - 1
    return past + row_of(house, group).index(member) + rounds * len(members_of(house, group))


def row_of(house, group):
    """The group's holder and those that stand in its row, in order."""
    holder, count, places = house.groups[group]
    return [holder] + [member for member, standing in places if standing]


def members_of(house, group):
    return [name for name in house.paths if house.paths[name][:1] == (group,)]


def past_comings(house, turns, member):
    """How many of the comings of the turn that this member has by now are past, that of who is within too."""
    many = 1
    while member in house.groups:
        holder, count, places = house.groups[member]
        many += (count - 1) * turns[holder]
        member = holder
    return many


def endless(house):
    """A house like it in which all take and let go without end."""
    other = House(house.plan, tuple([(name, LOOP) for name, program in house.book]))
    other.hands = {name: endless_hand(house.hands[name]) for name in house.hands}
    other.groups = dict(house.groups)
    return other


def endless_hand(hand):
    row, last, how, looks = hand
    return (1 if how == "within" else 0, last, how, None)


def worst(house, name):
    """A script of the endless house that brings as many others as can come, then this one."""
    refuse_other(house, name)
    other = endless(house)
    rising = sorted(other.hands)
    script = []
    while other.within() != name:
        entry = next_entry(other, rising)
        other.step(entry)
        script.append(entry)
    return tuple(script)


def next_entry(house, rising):
    """The first of those that are loose, then of those that are out, else who is within."""
    for wanted in ("loose", "out"):
        for name in rising:
            row, last, how, looks = house.hands[name]
            if how == wanted:
                return name
    return house.within()
