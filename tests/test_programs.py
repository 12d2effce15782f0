"""Rows, programs and books."""

import itertools
import unittest

import things
from nearlocks.plans import hands_of
from nearlocks.programs import is_book, is_program

WORDS = ("take", "try", "let", "say", "goto", "if")
EVERY_FORM = (("take", None), ("take", 0), ("take", 7), ("try",), ("let",), ("say", 0), ("say", 99),
              ("goto", 0), ("goto", 9), ("if", 0, 0))
NO_NUMBERS = (True, False, "0", "", b"0", (), (0,), [], [0], {}, {0: 0}, ("take", None), things.Stranger())
FILL = (("let",), ("let",), ("let",))


class IsProgramTests(unittest.TestCase):
    def told(self, thing, answer):
        self.assertIs(is_program(thing), answer, thing)

    def row_told(self, row, answer):
        """As the only row, and as each one of four: of numbers that both programs have, or neither."""
        self.told((row,), answer)
        for at in range(4):
            self.told(FILL[:at] + (row,) + FILL[at:], answer)

    def test_none(self):
        self.told((), True)

    def test_every_form(self):
        self.told(EVERY_FORM, True)
        for many in range(1, len(EVERY_FORM) + 1):
            self.told(tuple(reversed(EVERY_FORM))[:many] + (("let",),) * 10, True)

    def test_take(self):
        for looks in (None, 0, 1, 2, 99, 100, 999999999, 10 ** 12):
            self.row_told(("take", looks), True)
        for looks in (-1, -99) + NO_NUMBERS:
            self.row_told(("take", looks), False)

    def test_try_and_let(self):
        for word in ("try", "let"):
            self.row_told((word,), True)
            for more in (None, 0, 1, "", (), word):
                self.row_told((word, more), False)

    def test_say(self):
        for number in (0, 1, 50, 98, 99):
            self.row_told(("say", number), True)
        for number in (-1, 100, 101, 999999999, None) + NO_NUMBERS:
            self.row_told(("say", number), False)

    def test_goto(self):
        for many in (1, 2, 3, 40):
            for at in range(many):
                rows = [("let",)] * many
                for number in range(-3, many + 3):
                    rows[at] = ("goto", number)
                    self.told(tuple(rows), 0 <= number < many)
        for number in (None, -1, 4, 999999999) + NO_NUMBERS:
            self.row_told(("goto", number), False)

    def test_if(self):
        for many in (1, 2, 3, 40):
            for at in range(many):
                rows = [("let",)] * many
                for number in range(-3, many + 3):
                    for told in (-999999999, -1, 0, 1, 100, 999999999):
                        rows[at] = ("if", told, number)
                        self.told(tuple(rows), 0 <= number < many)
        for worth in (None,) + NO_NUMBERS:
            self.row_told(("if", worth, 0), False)
            self.row_told(("if", 0, worth), False)

    def test_a_part_more_or_fewer(self):
        for row in (("take", None), ("take", 0), ("try",), ("let",), ("say", 0), ("goto", 0), ("if", 0, 0)):
            self.row_told(row, True)
            self.row_told(row[:-1], False)
            self.row_told(row[1:], False)
            for more in (None, 0, "", (), row[0]):
                self.row_told(row + (more,), False)
                self.row_told((more,) + row, False)
            self.row_told(row[::-1], len(row) == 1)

    def test_how_many_parts_each_word_has(self):
        lengths = {"take": (1,), "try": (0,), "let": (0,), "say": (1,), "goto": (1,), "if": (2,)}
        for word in WORDS:
            for many in range(5):
                self.row_told((word,) + (0,) * many, many in lengths[word])

    def test_rows_in_lists(self):
        for row in EVERY_FORM:
            self.told((list(row),) + EVERY_FORM, False)
            self.told(EVERY_FORM + (list(row),), False)
            self.told([row], False)
        self.told(list(EVERY_FORM), False)
        self.told([], False)

    def test_other_words(self):
        for word in ("", "Take", "TAKE", "take ", " take", "tak", "takes", "lets", "iff", "go", "end", "program",
                     b"take", None, 0, True, ("take",), ["take"], {"take": 1}, {"take"}, things.Stranger()):
            for rest in ((), (0,), (None,), (0, 0)):
                self.row_told((word,) + rest, False)

    def test_a_row_by_itself(self):
        for row in EVERY_FORM:
            self.told(row, False)
        for word in WORDS:
            self.told(word, False)
            self.told((word,), False)

    def test_one_bad_row_among_many(self):
        good = EVERY_FORM * 4
        self.told(good, True)
        for at in range(len(good)):
            for row in ((), None, ("take",), ("say", 100), ("goto", len(good)), ["let"], "let"):
                self.told(good[:at] + (row,) + good[at + 1:], False)

    def test_anything(self):
        for thing in things.anything():
            before = things.picture(thing)
            self.told(thing, False)
            self.row_told(thing, False)
            self.told((("let",), (thing,)), False)
            self.told((("let",), (thing, 0)), False)
            self.assertEqual(things.picture(thing), before)


PLAN = ("all", 1, (("left", 2, ("cy", "ann")), "bob"))
PROGRAM = (("take", None), ("let",), ("goto", 0))
BOOK = (("ann", PROGRAM), ("bob", ()), ("cy", (("try",),)))
BAD_PROGRAMS = ([], [("let",)], (("take",),), (("goto", 1),), (("say", 100),), (["let"],), ("let",), None, True, 0,
                "", "let", {}, ((),), (None,))


def book_of(plan):
    """A book of this plan, with all forms of rows in turn."""
    return tuple((name, EVERY_FORM * (at % 5)) for at, name in enumerate(sorted(hands_of(plan))))


class IsBookTests(unittest.TestCase):
    def told(self, plan, thing, answer):
        self.assertIs(is_book(plan, thing), answer, (plan, thing))

    def test_books_as_they_are(self):
        self.told(PLAN, BOOK, True)
        for plan in things.plans():
            before = things.twin(plan)
            self.told(plan, book_of(plan), True)
            self.assertEqual(plan, before)

    def test_a_hand_missing_or_twice(self):
        self.told(PLAN, (), False)
        for plan in things.plans():
            book = book_of(plan)
            for at in range(len(book)):
                self.told(plan, book[:at] + book[at + 1:], False)
                self.told(plan, book[:at] + book[at:at + 1] + book[at:], False)
                self.told(plan, book[:at] + ((book[at][0], ()),) + book[at:], False)
                if len(book) > 1:
                    self.told(plan, book[:at] + book[at + 1:] + book[at:at + 1], at == len(book) - 1)

    def test_a_group_or_nobody(self):
        for name in ("all", "left", "ax", "dee", "zed", "", "ANN", "ann "):
            self.told(PLAN, tuple(sorted(BOOK + ((name, ()),))), False)
            for at in range(3):
                pairs = BOOK[:at] + ((name, ()),) + BOOK[at + 1:]
                self.told(PLAN, pairs, False)
                self.told(PLAN, tuple(sorted(pairs)), False)

    def test_in_another_order(self):
        for pairs in itertools.permutations(BOOK):
            self.told(PLAN, pairs, pairs == BOOK)
        self.told(PLAN, tuple((name, dict(BOOK)[name]) for name in hands_of(PLAN)), False)

    def test_lists(self):
        self.told(PLAN, list(BOOK), False)
        self.told(PLAN, [], False)
        self.told(PLAN, dict(BOOK), False)
        for at in range(3):
            self.told(PLAN, BOOK[:at] + (list(BOOK[at]),) + BOOK[at + 1:], False)

    def test_a_pair_otherwise(self):
        for at in range(3):
            name, program = BOOK[at]
            for pair in ((name,), (name, program, ()), (program, name), (), name, program, None, ((name, program),),
                         (name, program, None), ([name], program), ((name,), program), (None, program),
                         (True, program), (0, program), (name.encode(), program), ({name: 1}, program),
                         (things.Same(), program)):
                self.told(PLAN, BOOK[:at] + (pair,) + BOOK[at + 1:], False)

    def test_a_program_otherwise(self):
        for at in range(3):
            for program in BAD_PROGRAMS:
                self.told(PLAN, BOOK[:at] + ((BOOK[at][0], program),) + BOOK[at + 1:], False)

    def test_a_row_number_is_of_its_own_program(self):
        self.told(("w", 1, ("a", "b")), (("a", (("goto", 1),)), ("b", (("let",), ("let",)))), False)
        self.told(("w", 1, ("a", "b")), (("a", (("goto", 0),)), ("b", (("let",), ("goto", 1)))), True)

    def test_the_book_of_another_plan(self):
        known = things.plans()
        for plan in known:
            for other in known:
                same = sorted(hands_of(plan)) == sorted(hands_of(other))
                self.told(plan, book_of(other), same)

    def test_rising_is_by_all_letters(self):
        plan = ("w", 1, ("b", "ab", "aa", "a", "ba"))
        self.told(plan, tuple((name, ()) for name in ("a", "aa", "ab", "b", "ba")), True)
        self.told(plan, tuple((name, ()) for name in ("a", "b", "aa", "ab", "ba")), False)

    def test_anything(self):
        for thing in things.anything() + [()]:
            before = things.picture(thing)
            self.told(PLAN, thing, False)
            for at in range(3):
                self.told(PLAN, BOOK[:at] + (thing,) + BOOK[at + 1:], False)
                self.told(PLAN, BOOK[:at] + ((thing, ()),) + BOOK[at + 1:], False)
                self.told(PLAN, BOOK[:at] + ((BOOK[at][0], thing),) + BOOK[at + 1:], before == "()")
            self.assertEqual(things.picture(thing), before)


if __name__ == "__main__":
    unittest.main()
