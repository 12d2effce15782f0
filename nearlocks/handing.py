"""Handing on: locks that are let go, and places that are left."""

from nearlocks.drafts import add_place, give_lock, is_loose


def let_go(draft, hand):
    """Who is within lets go of the locks around it; whether it can, for no loose hand is first."""
    row, last, how, looks = draft.hands[hand]
    draft.hands[hand] = (row + 1, 0, "out", None)
    draft.told.append(("let", hand))
    path = draft.paths[hand]
    arounds = path[1:] + (None,)
    for group, around in zip(path, arounds):
        first = pass_left(draft, group)
        if first is None:
            make_bare(draft, group)
        elif is_loose(draft, first):
            return False
        elif around is None or is_below(draft, group):
            hand_near(draft, group, around)
            return True
        else:
            hand_over(draft, group, around)
    return True


def is_below(draft, group):
    holder, count, places = draft.groups[group]
    return count < draft.bounds[group]


def pass_left(draft, group):
    """Left places at the front are there no more; the member whose place is first then, or None."""
    holder, count, places = draft.groups[group]
    while len(places) > 0:
        member, standing = places[0]
        if standing:
            break
        draft.told.append(("passed", member, group))
        places = places[1:]
    draft.groups[group] = (holder, count, places)
    if len(places) == 0:
        return None
    first = places[0][0]
    draft.firsts.append(first)
    return first


def hand_on(draft, group, reason, count):
    """The first one of the row is the group's holder, and its place is gone; tells who it is."""
    holder, counted, places = draft.groups[group]
    member, standing = places[0]
    draft.groups[group] = (member, count, places[1:])
    draft.told.append(("handed", member, group, reason))
    return member


def hand_near(draft, group, around):
    holder, count, places = draft.groups[group]
    member = hand_on(draft, group, "near", count if around is None else count + 1)
    give_lock(draft, member)


def hand_over(draft, group, around):
    hand_on(draft, group, "over", 0)
    add_place(draft, group, around)


def make_bare(draft, group):
    draft.groups[group] = (None, 0, ())
    draft.told.append(("bare", group))


def leave(draft, hand):
    """One that waits gives up; whether it can, for no loose hand is first."""
    row, last, how, looks = draft.hands[hand]
    draft.hands[hand] = (row + 1, 0, "out", None)
    return leave_row(draft, hand)


def leave_row(draft, member):
    """The member leaves the group around it, and so does that group where it is bare by this; whether it can."""
    # There is a group around each that leaves: the whole's holder has the lock, and never waits.
    group = draft.paths[member][0]
    draft.told.append(("left", member))
    holder, count, places = draft.groups[group]
    if holder != member:
        draft.groups[group] = (holder, count, places_without(places, member))
        return True
    first = pass_left(draft, group)
    if first is None:
        make_bare(draft, group)
        return leave_row(draft, group)
    if is_loose(draft, first):
        return False
    hand_on(draft, group, "left", count)
    return True


def places_without(places, gone):
    """The same places, but this one's is standing no more: it stays till it is passed."""
    return tuple([(member, standing and member != gone) for member, standing in places])
