"""Tales: what the events of a script show."""

from nearlocks.kinds import is_tuple_of


def comings(events):
    """All who came, in order."""
    return tuple([event[1] for event in all_events(events) if event[0] == "came"])


def reasons(events):
    """(member, group, reason) of all handed, in order."""
    return tuple([event[1:] for event in all_events(events) if event[0] == "handed"])


def all_events(events):
    """The events of all steps, in one list."""
    return [event for step in events for event in step]


def shows_plain(thing):
    """Whether this is a plain lock's tale: all come and let go by turns, each let by the one that came last."""
    if not is_tuple_of_tuples(thing) or not all([is_event(event) for event in all_events(thing)]):
        return False
    turns = [event for event in all_events(thing) if event[0] in ("came", "let")]
    inside = None
    for turn in turns:
        if not is_turn(turn, inside):
            return False
        inside = turn[1] if turn[0] == "came" else None
    return True


def is_tuple_of_tuples(thing):
    return isinstance(thing, tuple) and all([isinstance(part, tuple) for part in thing])


def is_event(thing):
    return isinstance(thing, tuple) and len(thing) > 0 and isinstance(thing[0], str)


def is_turn(event, inside):
    """Whether it is a coming where nobody is inside, or the letting go of who is."""
    if not is_tuple_of(event, 2) or not isinstance(event[1], str):
        return False
    if event[0] == "came":
        return inside is None
    return event[1] == inside
