"""Drafts: steps as they are worked out, ahead of being done."""


class Draft:
    """A house's hands and groups by now, and the events so far.

    A step is worked out here, not in the house: where it proves to be idle, the draft is dropped, and nothing changed.
    The firsts are the members that were found first in the rows that are let go or left, the one that ties among them.
    """

    def __init__(self, house):
        self.paths = house.paths
        self.bounds = house.bounds
        self.programs = house.programs
        self.hands = dict(house.hands)
        self.groups = dict(house.groups)
        self.told = []
        self.firsts = []


def within_of(hands):
    """Who is within, or None."""
    for name in hands:
        row, last, how, looks = hands[name]
        if how == "within":
            return name
    return None


def is_loose(draft, member):
    if member not in draft.hands:
        return False
    row, last, how, looks = draft.hands[member]
    return how == "loose"


def give_lock(draft, member):
    """This hand or group has the lock: down from holder to holder, up to the hand that comes within."""
    while member in draft.groups:
        holder, count, places = draft.groups[member]
        draft.groups[member] = (holder, 1, places)
        member = holder
    row, last, how, looks = draft.hands[member]
    draft.hands[member] = (row + 1, 1, "within", None)
    draft.told.append(("came", member))


def add_place(draft, member, group):
    """The member's place is the last one of the group's row."""
    holder, count, places = draft.groups[group]
    draft.groups[group] = (holder, count, (*places, (member, True)))


def stand(draft, hand, looks):
    """The hand stands in its group, and each group that has a holder by this in the one around it."""
    row, last, how, former = draft.hands[hand]
    draft.hands[hand] = (row, last, "waits", looks)
    path = draft.paths[hand]
    member = hand
    for group in path:
        holder, count, places = draft.groups[group]
        if holder is not None:
            add_place(draft, member, group)
            draft.told.append(("stood", member, group))
            if member == hand:
                draft.hands[hand] = (row, last, "loose", looks)
            return
        draft.groups[group] = (member, count, places)
        draft.told.append(("held", member, group))
        member = group
    give_lock(draft, member)
