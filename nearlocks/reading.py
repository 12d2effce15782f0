"""Plans and books read from their texts."""

from nearlocks.errors import NoBook, NoPlan, NoText
from nearlocks.forms import read_words
from nearlocks.plans import is_plan
from nearlocks.programs import is_book

PLAN_ROWS = (("group", "NAME", "N"), ("hand", "NAME"), ("end",))
BOOK_ROWS = (("program", "NAME"), ("take",), ("take", "N"), ("try",), ("let",), ("say", "N"), ("goto", "N"),
             ("if", "M", "N"))


def read_plan(text):
    """The plan that is written so; refused with the first row that is wrong, then where it is no plan."""
    rows = rows_of(text)
    begun = []
    whole = None
    for number, row in enumerate(rows):
        words = read_words(row, PLAN_ROWS)
        if words is None or whole is not None or not can_stand(words[0], begun):
            raise NoText(number)
        whole = add_row(begun, words)
    if whole is None:
        raise NoText(len(rows))
    if not is_plan(whole):
        raise NoPlan()
    return whole


def rows_of(text):
    if not isinstance(text, str):
        raise NoText(0)
    return text.split("\n")


def can_stand(word, begun):
    """Whether a row with this word can stand where these groups are begun: a group has one member at least."""
    if len(begun) == 0:
        return word == "group"
    name, bound, members = begun[-1]
    return word != "end" or len(members) > 0


def add_row(begun, words):
    """Adds what this row tells to the groups that are begun; the whole where the row ends it, else None."""
    if words[0] == "group":
        begun.append((words[1], words[2], []))
        return None
    member = words[1] if words[0] == "hand" else ended(begun)
    if len(begun) == 0:
        return member
    name, bound, members = begun[-1]
    members.append(member)
    return None


def ended(begun):
    """The group that was begun last, which ends here."""
    name, bound, members = begun.pop()
    return (name, bound, tuple(members))


def read_book(plan, text):
    """The book of this plan that is written so; refused likewise."""
    programs = []
    for number, row in enumerate(rows_of(text)):
        words = read_words(row, BOOK_ROWS)
        if words is None or (len(programs) == 0 and words[0] != "program"):
            raise NoText(number)
        if words[0] == "program":
            programs.append((words[1], []))
        else:
            name, rows = programs[-1]
            rows.append(program_row(words))
    if not is_plan(plan):
        raise NoPlan()
    book = tuple([(name, tuple(rows)) for name, rows in programs])
    if not is_book(plan, book):
        raise NoBook()
    return book


def program_row(words):
    # A take without looks is its word alone.
    return ("take", None) if words == ("take",) else words
