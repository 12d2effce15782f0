"""Programs: what hands do, row by row; and books, a program for each hand of a plan."""

from nearlocks.kinds import is_tuple_of, is_whole, is_whole_from
from nearlocks.plans import hands_of

MOST_SAID = 99


def is_row_number(thing, many):
    return is_whole_from(thing, 0) and thing < many


def word_fits(row, many):
    return len(row) == 1


def take_fits(row, many):
    return len(row) == 2 and (row[1] is None or is_whole_from(row[1], 0))


def say_fits(row, many):
    return len(row) == 2 and is_whole_from(row[1], 0) and row[1] <= MOST_SAID


def goto_fits(row, many):
    return len(row) == 2 and is_row_number(row[1], many)


def if_fits(row, many):
    return len(row) == 3 and is_whole(row[1]) and is_row_number(row[2], many)


FORMS = {
    "take": take_fits,
    "try": word_fits,
    "let": word_fits,
    "say": say_fits,
    "goto": goto_fits,
    "if": if_fits,
}


def is_program(thing):
    """Whether this is a tuple of rows, maybe of none."""
    if not isinstance(thing, tuple):
        return False
    return all([row_fits(row, len(thing)) for row in thing])


def row_fits(row, many):
    """Whether this is a row of a program of so many rows."""
    if not isinstance(row, tuple) or len(row) == 0:
        return False
    word = row[0]
    # Asked ahead of the table: a list or a dict can't be looked up in it.
    if not isinstance(word, str) or word not in FORMS:
        return False
    fits = FORMS[word]
    return fits(row, many)


def is_book(plan, thing):
    """Whether this is a rising tuple of (hand, program), one for each hand of the plan."""
    if not isinstance(thing, tuple):
        return False
    if not all([pair_fits(pair) for pair in thing]):
        return False
    return [name for name, program in thing] == sorted(hands_of(plan))


def pair_fits(pair):
    return is_tuple_of(pair, 2) and isinstance(pair[0], str) and is_program(pair[1])
