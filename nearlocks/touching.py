"""Touching: which cells a step reads and writes, and which steps meet."""

from nearlocks.stepping import drafted


def touched(house, name):
    """(cell, mode) of all cells that this hand's step touches, rising."""
    draft = drafted(house, name)
    modes = {}
    if minds_rows(house, name):
        for group in house.paths[name]:
            modes[("row", group)] = "read"
    for first in draft.firsts:
        if first in house.hands:
            modes[("own", first)] = "read"
    modes[("own", name)] = "write"
    for hand in changed(house.hands, draft.hands):
        modes[("own", hand)] = "write"
    for group in changed(house.groups, draft.groups):
        modes[("row", group)] = "write"
    return tuple(sorted(modes.items()))


def minds_rows(house, name):
    """Whether the step hangs on the rows around the hand: a take, try or let that doesn't lack, or the last look."""
    number, last, how, looks = house.hands[name]
    if how == "waits":
        return looks == 0
    program = house.programs[name]
    if how == "loose" or number == len(program):
        return False
    words = ("let",) if how == "within" else ("take", "try")
    return program[number][0] in words


def changed(before, behind):
    return [name for name in before if before[name] != behind[name]]


def meet(house, one, other):
    """Whether a cell of both steps is written by one."""
    modes = dict(touched(house, one))
    others = dict(touched(house, other))
    return any(["write" in (modes[cell], others[cell]) for cell in modes if cell in others])
