"""Forms: rows of words parted by one blank, each word told, or a name or a number.

A form is a tuple of words; NAME stands for a name, N for a number, M for one that may be below nought.
"""

LETTERS = "abcdefghijklmnopqrstuvwxyz"
FIGURES = "0123456789"
MOST_FIGURES = 9


def is_letters(word):
    return len(word) > 0 and all([sign in LETTERS for sign in word])


def is_number(word):
    """Whether these are plain figures, not too many, no 0 ahead but in 0."""
    if not 1 <= len(word) <= MOST_FIGURES:
        return False
    if word.startswith("0") and word != "0":
        return False
    return all([sign in FIGURES for sign in word])


def is_signed(word):
    if word.startswith("-"):
        return word != "-0" and is_number(word[1:])
    return is_number(word)


KINDS = {"NAME": is_letters, "N": is_number, "M": is_signed}


def read_words(row, forms):
    """The words of a row that has one of these forms, its numbers as such; None where it has none of them."""
    words = row.split(" ")
    for form in forms:
        if has_form(words, form):
            return tuple([read_word(word, kind) for word, kind in zip(words, form)])
    return None


def has_form(words, form):
    if len(words) != len(form):
        return False
    return all([word_fits(word, kind) for word, kind in zip(words, form)])


def word_fits(word, kind):
    if kind not in KINDS:
        return word == kind
    fits = KINDS[kind]
    return fits(word)


def read_word(word, kind):
    return int(word) if kind in ("N", "M") else word
