"""The order in which those that stand come within."""

from nearlocks.drafts import Draft, within_of
from nearlocks.errors import NoBounds
from nearlocks.handing import let_go
from nearlocks.kinds import is_whole_from
from nearlocks.plans import LEAST_BOUND, groups_of
from nearlocks.tales import comings


def order(house):
    """The hands that come within, in order, where all let go at once and none comes anew."""
    return order_with(house, house.bounds)


def order_by(house, bounds):
    """Likewise, by other bounds, one for each group as groups_of."""
    names = groups_of(house.plan)
    if not are_bounds(bounds, len(names)):
        raise NoBounds()
    return order_with(house, dict(zip(names, bounds)))


def are_bounds(thing, many):
    if not isinstance(thing, tuple) or len(thing) != many:
        return False
    return all([is_whole_from(bound, LEAST_BOUND) for bound in thing])


def order_with(house, bounds):
    draft = Draft(house)
    draft.bounds = bounds
    tie_all(draft)
    inside = within_of(draft.hands)
    while inside is not None:
        let_go(draft, inside)
        inside = within_of(draft.hands)
    return comings((tuple(draft.told),))


def tie_all(draft):
    for name in list(draft.hands):
        row, last, how, looks = draft.hands[name]
        if how == "loose":
            draft.hands[name] = (row, last, "waits", looks)
