"""A desk: lines are said to it, and it answers each with a text."""

from nearlocks.counting import ahead
from nearlocks.errors import LockError, NoHouse, NoLine
from nearlocks.forms import is_letters, read_words
from nearlocks.houses import House
from nearlocks.orders import order
from nearlocks.reading import read_book, read_plan
from nearlocks.scripts import walk, why
from nearlocks.showing import show_events, show_group, show_hand, show_maybe
from nearlocks.touching import meet
from nearlocks.ways import ways

KEPT = True
LINES = (("hand", "NAME"), ("group", "NAME"), ("within",), ("why", "NAME"), ("order",), ("ahead", "NAME"), ("ways",),
         ("meet", "NAME", "NAME"))


def tell_hand(house, name):
    return show_hand(name, house.hand(name))


def tell_group(house, name):
    return show_group(name, house.group(name))


def tell_within(house):
    return show_maybe(house.within())


def tell_why(house, name):
    return show_maybe(why(house, name))


def tell_order(house):
    names = order(house)
    return " ".join(names) if names else "-"


def tell_ahead(house, name):
    return str(ahead(house, name))


def tell_ways(house):
    return str(ways(house))


def tell_meet(house, one, other):
    return "yes" if meet(house, one, other) else "no"


ANSWERS = {"hand": tell_hand, "group": tell_group, "within": tell_within, "why": tell_why, "order": tell_order,
           "ahead": tell_ahead, "ways": tell_ways, "meet": tell_meet}


class Desk:
    """A plan and a house of it, both none at first, and a note of what was said.

    The house is never stepped itself, but a twin of it takes its place: so what was there ahead can come back.
    """

    def __init__(self):
        self.plan = None
        self.home = None
        self.noted = []

    def say(self, line):
        """The answer to this line."""
        try:
            answer = answered(self, line)
        except LockError:
            self.noted.append("refused")
            raise
        self.noted.append("said")
        return answer

    def say_all(self, lines, *, keep=KEPT):
        """Says one after the other, up to the first that is refused; the tuple of the answers."""
        plan = self.plan
        home = self.home
        answers = []
        self.noted.append("open")
        try:
            for line in lines:
                answers.append(self.say(line))
        except LockError:
            if keep is not True:
                self.plan = plan
                self.home = home
            raise
        finally:
            self.noted.append("shut")
        return tuple(answers)

    def log(self):
        """What came of each say, and where each say_all began and ended."""
        return tuple(self.noted)


def answered(desk, line):
    if not isinstance(line, str):
        raise NoLine()
    word, blank, rest = line.partition(" ")
    if blank and word == "plan":
        return begin_plan(desk, rest)
    if blank and word == "book":
        return begin_house(desk, rest)
    names = rest.split(" ")
    if word == "step" and all([is_letters(name) for name in names]):
        return step_all(desk, tuple(names))
    words = read_words(line, LINES)
    if words is None:
        raise NoLine()
    return asked(desk, words)


def begin_plan(desk, text):
    desk.plan = read_plan(as_rows(text))
    desk.home = None
    return "done"


def begin_house(desk, text):
    if desk.plan is None:
        raise NoHouse()
    desk.home = House(desk.plan, read_book(desk.plan, as_rows(text)))
    return "done"


def as_rows(text):
    return text.replace(" ; ", "\n")


def home_of(desk):
    if desk.home is None:
        raise NoHouse()
    return desk.home


def step_all(desk, names):
    house = home_of(desk).twin()
    events = walk(house, names)
    desk.home = house
    return show_events(events)


def asked(desk, words):
    house = home_of(desk)
    word, *names = words
    answer = ANSWERS[word]
    return answer(house, *names)
