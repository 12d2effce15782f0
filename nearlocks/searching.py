"""Searching: all houses to which scripts lead."""

from nearlocks.drafts import Draft
from nearlocks.errors import TooMany
from nearlocks.showing import house_rows
from nearlocks.stepping import drafted


class Search:
    """The houses that were found, as drafts by their texts, and the moves of each one that was looked at.

    A move is a step that doesn't idle: its events, and the text of the house behind it.
    """

    def __init__(self, most):
        self.most = most
        self.drafts = {}
        self.moves = {}
        self.waiting = []


def searched(house, most):
    """The search of all houses to which scripts lead from this one; refused where there are more than most."""
    search = Search(most)
    add_house(search, Draft(house))
    while search.waiting:
        text = search.waiting.pop()
        search.moves[text] = moves_of(search, search.drafts[text])
    return search


def add_house(search, draft):
    """The house is found, and waits to be looked at where it is new; its text."""
    text = "\n".join(house_rows(draft))
    if text not in search.drafts:
        search.drafts[text] = draft
        search.waiting.append(text)
    if len(search.drafts) > search.most:
        raise TooMany()
    return text


def moves_of(search, draft):
    moves = []
    for name in draft.hands:
        behind = drafted(draft, name)
        if behind.told[0][0] != "idle":
            moves.append((tuple(behind.told), add_house(search, behind)))
    return moves
