"""Ways: the scripts without idle steps from a house to its ends."""

from nearlocks.errors import Endless, NoName
from nearlocks.kinds import is_known
from nearlocks.reaching import MOST
from nearlocks.searching import searched
from nearlocks.tales import comings


def ways(house, *, most=MOST):
    """How many ways there are."""
    search = searched(house, most)
    many = {}
    for text in back_from_ends(search):
        moves = search.moves[text]
        many[text] = sum([many[behind] for events, behind in moves]) if moves else 1
    return many[str(house)]


def orders(house, *, most=MOST):
    """(comings, how many ways come so) of all ways, rising."""
    search = searched(house, most)
    known = {}
    for text in back_from_ends(search):
        known[text] = orders_by(search.moves[text], known)
    return tuple(sorted(known[str(house)].items()))


def orders_by(moves, known):
    """A dict of how many ways there are for each order, by what is known of the houses behind these moves."""
    if not moves:
        return {(): 1}
    found = {}
    for events, behind in moves:
        came = comings((events,))
        for rest in known[behind]:
            whole = came + rest
            found[whole] = found.get(whole, 0) + known[behind][rest]
    return found


def greatest(house, name, *, most=MOST):
    """The most others that come behind a taking of this hand and ahead of its next coming or leaving, or the end."""
    if not is_known(name, house.hands):
        raise NoName(name)
    search = searched(house, most)
    others = {}
    takings = []
    for text in back_from_ends(search):
        moves = search.moves[text]
        takings.extend([others[behind] for events, behind in moves if is_taking(events, name)])
        others[text] = max([others_by(events, name, others[behind]) for events, behind in moves], default=0)
    return max(takings, default=None)


def is_taking(events, name):
    """Whether this hand stands or holds by this step, and doesn't come by it."""
    return events[0][:2] in (("stood", name), ("held", name)) and ("came", name) not in events


def others_by(events, name, behind):
    """How many others come by this step and behind it, up to this hand's coming or leaving."""
    if ("came", name) in events or ("left", name) in events:
        return 0
    return len(comings((events,))) + behind


def back_from_ends(search):
    """The texts of all houses, each behind all those to which its moves lead; refused where one leads to itself."""
    missing = {text: len(search.moves[text]) for text in search.moves}
    leading = leading_to(search)
    ready = [text for text in missing if missing[text] == 0]
    found = []
    while ready:
        text = ready.pop()
        found.append(text)
        for ahead in leading[text]:
            missing[ahead] -= 1
            if missing[ahead] == 0:
                ready.append(ahead)
    if len(found) < len(missing):
        raise Endless()
    return found


def leading_to(search):
    """For each house's text, those of the houses of which a move leads to it, once for each such move."""
    leading = {text: [] for text in search.moves}
    for text in search.moves:
        for events, behind in search.moves[text]:
            leading[behind].append(text)
    return leading
