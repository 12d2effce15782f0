"""A look at what is said to be reached."""

from nearlocks.errors import TooMany
from nearlocks.reaching import reached


def shows_reached(house, thing):
    """Whether this is the rising tuple of the texts of all houses to which scripts lead."""
    if not is_tuple_of_texts(thing) or str(house) not in thing:
        return False
    # Ever more houses may come: one more than were told is enough to know.
    try:
        return reached(house, most=len(thing)) == thing
    except TooMany:
        return False


def is_tuple_of_texts(thing):
    return isinstance(thing, tuple) and all([isinstance(text, str) for text in thing])
