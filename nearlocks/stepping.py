"""Steps: what a hand does next, by how it is and by its program.

Each function do_.. tells why the step is idle, or None where it isn't.
"""

from nearlocks.drafts import Draft, stand
from nearlocks.errors import NoName
from nearlocks.handing import leave, let_go
from nearlocks.kinds import is_known


def is_within(draft, hand):
    row, last, how, looks = draft.hands[hand]
    return how == "within"


def finish(draft, hand, last, event):
    """The hand's row is done, with this as its last."""
    row, former, how, looks = draft.hands[hand]
    draft.hands[hand] = (row + 1, last, how, looks)
    draft.told.append(event)


def go(draft, hand, number):
    """The row of this number is the hand's next one."""
    row, last, how, looks = draft.hands[hand]
    draft.hands[hand] = (number, last, how, looks)
    draft.told.append(("went", hand, number))


def do_take(draft, hand, row):
    if is_within(draft, hand):
        finish(draft, hand, -1, ("lack", hand))
    else:
        stand(draft, hand, row[1])
    return None


def do_try(draft, hand, row):
    whole = draft.paths[hand][-1]
    holder, count, places = draft.groups[whole]
    if is_within(draft, hand):
        finish(draft, hand, -1, ("lack", hand))
    elif holder is None:
        stand(draft, hand, None)
    else:
        finish(draft, hand, 0, ("no", hand))
    return None


def do_let(draft, hand, row):
    if is_within(draft, hand):
        return None if let_go(draft, hand) else "ties"
    finish(draft, hand, -1, ("lack", hand))
    return None


def do_say(draft, hand, row):
    finish(draft, hand, 0, ("said", hand, row[1]))
    return None


def do_goto(draft, hand, row):
    go(draft, hand, row[1])
    return None


def do_if(draft, hand, row):
    number, last, how, looks = draft.hands[hand]
    go(draft, hand, row[2] if last == row[1] else number + 1)
    return None


ROWS = {"take": do_take, "try": do_try, "let": do_let, "say": do_say, "goto": do_goto, "if": do_if}


def do_row(draft, hand):
    number, last, how, looks = draft.hands[hand]
    program = draft.programs[hand]
    if number == len(program):
        return "ended"
    row = program[number]
    action = ROWS[row[0]]
    return action(draft, hand, row)


def do_tie(draft, hand):
    row, last, how, looks = draft.hands[hand]
    draft.hands[hand] = (row, last, "waits", looks)
    draft.told.append(("tied", hand))
    return None


def do_look(draft, hand):
    row, last, how, looks = draft.hands[hand]
    if looks is None:
        return "waits"
    if looks == 0:
        return None if leave(draft, hand) else "ties"
    draft.hands[hand] = (row, last, how, looks - 1)
    draft.told.append(("looked", hand))
    return None


HOWS = {"out": do_row, "loose": do_tie, "waits": do_look, "within": do_row}


def drafted(house, name):
    """The draft of this hand's step; the house stays as it is."""
    if not is_known(name, house.hands):
        raise NoName(name)
    draft = Draft(house)
    row, last, how, looks = draft.hands[name]
    action = HOWS[how]
    reason = action(draft, name)
    if reason is None:
        return draft
    idle = Draft(house)
    idle.firsts = draft.firsts
    idle.told.append(("idle", name, reason))
    return idle
