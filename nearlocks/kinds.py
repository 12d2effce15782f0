"""What kind of thing something is, asked of anything."""


def is_whole(thing):
    # To Python a truth is an int; to this program it is no number.
    return isinstance(thing, int) and not isinstance(thing, bool)


def is_whole_from(thing, least):
    return is_whole(thing) and thing >= least


def is_tuple_of(thing, many):
    return isinstance(thing, tuple) and len(thing) == many


def is_known(thing, names):
    # A list or a dict can't be looked up, so what is no text is never asked for.
    return isinstance(thing, str) and thing in names
