"""Logs: steps that can be taken back."""

from nearlocks.errors import NoScript, NoStep


class Log:
    """A house of its own, and what was done in it: of each step its entry, its events, and hands and groups ahead."""

    def __init__(self, house):
        self.now = house.twin()
        self.done = []

    def step(self, name):
        """The hand of this name steps; the tuple of its events."""
        hands = self.now.hands
        groups = self.now.groups
        told = self.now.step(name)
        self.done.append((name, told, hands, groups))
        return told

    def walk(self, script):
        """Steps the entries; for each of them, the tuple of its events. Where one is refused, none is stepped."""
        if not isinstance(script, tuple):
            raise NoScript()
        for name in script:
            self.now.hand(name)
        told = []
        for name in script:
            told.append(self.step(name))
        return tuple(told)

    def back(self):
        """Takes back the last step; the tuple of its events."""
        if len(self.done) == 0:
            raise NoStep()
        name, told, hands, groups = self.done.pop()
        self.now.hands = hands
        self.now.groups = groups
        return told

    def house(self):
        """A twin of the house by now."""
        return self.now.twin()

    def events(self):
        """The tuple of each step's events, of those that weren't taken back."""
        return tuple([told for name, told, hands, groups in self.done])

    def entries(self):
        """Their names."""
        return tuple([name for name, told, hands, groups in self.done])

    def __len__(self):
        return len(self.done)

    def __eq__(self, other):
        if not isinstance(other, Log):
            return False
        return self.now == other.now and self.events() == other.events()
