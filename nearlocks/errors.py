"""The refusals: each stands straight under LockError, none under another one."""


class LockError(ValueError):
    """What all refusals have in common."""


class NoName(LockError):
    """No hand and no group, or no hand where a hand is asked for, has this name."""

    def __init__(self, name):
        self.name = name


class NoText(LockError):
    """A text can't be read from this row on."""

    def __init__(self, row):
        self.row = row


class NoPlan(LockError):
    """What was handed in is no plan."""


class NoBook(LockError):
    """What was handed in is no book of the plan."""


class NoScript(LockError):
    """What was handed in is no script."""


class NoBounds(LockError):
    """What was handed in is not one bound for each group."""


class NotWaiting(LockError):
    """The hand is neither loose nor waiting."""


class Uneven(LockError):
    """The plan is not even."""


class NoStep(LockError):
    """There is no step to take back."""


class TooMany(LockError):
    """More houses are reached than were allowed."""


class Endless(LockError):
    """Some house leads back to itself."""


class NoLine(LockError):
    """The desk knows no such line."""


class NoHouse(LockError):
    """The desk has no house, or no plan, so far."""
