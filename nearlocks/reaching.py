"""Reaching: all houses to which scripts lead, and those in which all steps idle."""

from nearlocks.scripts import stuck
from nearlocks.searching import searched

MOST = 2000


def reached(house, *, most=MOST):
    """The texts of all houses to which scripts lead, its own too, rising."""
    return tuple(sorted(searched(house, most).drafts))


def ends(house, *, most=MOST):
    """(text, stuck) of those in which each step idles, rising."""
    search = searched(house, most)
    return tuple([(text, stuck(search.drafts[text])) for text in sorted(search.drafts) if not search.moves[text]])
