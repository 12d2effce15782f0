"""Houses: the hands and groups of a plan as they are by now."""

from nearlocks.drafts import within_of
from nearlocks.errors import NoBook, NoName, NoPlan
from nearlocks.kinds import is_known
from nearlocks.plans import all_in, bounds_of, groups_of, hands_of, is_plan
from nearlocks.programs import is_book
from nearlocks.showing import house_rows
from nearlocks.stepping import drafted


class House:
    """A plan whose hands step by their programs."""

    def __init__(self, plan, book):
        if not is_plan(plan):
            raise NoPlan()
        if not is_book(plan, book):
            raise NoBook()
        self.plan = plan
        self.book = book
        self.paths = {name: path for name, bound, path in all_in(plan)}
        self.bounds = dict(zip(groups_of(plan), bounds_of(plan)))
        self.programs = dict(book)
        self.hands = {name: (0, 0, "out", None) for name in hands_of(plan)}
        self.groups = {name: (None, 0, ()) for name in groups_of(plan)}

    def hand(self, name):
        """The tuple (row, last, how, looks)."""
        if not is_known(name, self.hands):
            raise NoName(name)
        return self.hands[name]

    def group(self, name):
        """The tuple (holder, count, places)."""
        if not is_known(name, self.groups):
            raise NoName(name)
        return self.groups[name]

    def within(self):
        """Who is within, or None."""
        return within_of(self.hands)

    def twin(self):
        """A house of its own with the same."""
        other = House(self.plan, self.book)
        other.hands = dict(self.hands)
        other.groups = dict(self.groups)
        return other

    def step(self, name):
        """The hand of this name steps; the tuple of its events."""
        draft = drafted(self, name)
        self.hands = draft.hands
        self.groups = draft.groups
        return tuple(draft.told)

    def __eq__(self, other):
        if not isinstance(other, House):
            return False
        if self.plan != other.plan or self.book != other.book:
            return False
        return self.hands == other.hands and self.groups == other.groups

    def __len__(self):
        return len([name for name in self.hands if self.hands[name][2] != "out"])

    def __str__(self):
        return "\n".join(house_rows(self))
