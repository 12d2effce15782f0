"""Scripts: who steps next, and why a step idles."""

from nearlocks.errors import NoScript
from nearlocks.stepping import drafted


def walk(house, script):
    """Steps the entries in this house; for each of them, the tuple of its events."""
    if not isinstance(script, tuple):
        raise NoScript()
    events = []
    for name in script:
        events.append(house.step(name))
    return tuple(events)


def why(house, name):
    """Why this hand's next step idles, or None where it doesn't."""
    event = drafted(house, name).told[0]
    return event[2] if event[0] == "idle" else None


def stuck(house):
    """None where some hand's step doesn't idle, else (hand, why) of all."""
    rows = [(name, why(house, name)) for name in house.hands]
    if any([reason is None for name, reason in rows]):
        return None
    return tuple(rows)
