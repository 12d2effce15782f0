"""Plans and books as texts."""

import unittest

import things
from nearlocks.plans import hands_of
from nearlocks.programs import is_book
from nearlocks.showing import show_book, show_plan


def read_group(rows):
    """A group out of a list of rows, which is used up: a plain reader, for these tests alone."""
    word, name, bound = rows.pop(0).split(" ")
    assert word == "group" and str(int(bound)) == bound
    members = []
    while rows[0] != "end":
        if rows[0].startswith("group "):
            members.append(read_group(rows))
        else:
            word, hand = rows.pop(0).split(" ")
            assert word == "hand"
            members.append(hand)
    rows.pop(0)
    return (name, int(bound), tuple(members))


class ShowPlanTests(unittest.TestCase):
    def test_the_least_plan(self):
        self.assertEqual(show_plan(("a", 1, ("b",))), "group a 1\nhand b\nend")

    def test_groups_in_groups(self):
        left = ("left", 2, ("ann", ("deep", 30, ("bob", "cy")), "dee"))
        plan = ("all", 1, (left, "eve", ("right", 999999999, ("flo",))))
        self.assertEqual(show_plan(plan), "\n".join([
            "group all 1", "group left 2", "hand ann", "group deep 30", "hand bob", "hand cy", "end", "hand dee", "end",
            "hand eve", "group right 999999999", "hand flo", "end", "end"]))

    def test_groups_within_one_another(self):
        self.assertEqual(show_plan(things.chain(3)),
                         "group gb 2\ngroup ga 2\ngroup h 1\nhand hand\nend\nend\nend")

    def test_all_plans(self):
        for plan in things.plans():
            before = things.twin(plan)
            text = show_plan(plan)
            self.assertIsInstance(text, str)
            rows = text.split("\n")
            self.assertEqual(read_group(rows), plan)
            self.assertEqual(rows, [])
            self.assertEqual(plan, before)


class ShowBookTests(unittest.TestCase):
    def test_every_form_of_row(self):
        plan = ("w", 1, ("ann",))
        book = (("ann", (("take", None), ("take", 0), ("take", 17), ("try",), ("let",), ("say", 0), ("say", 99),
                         ("goto", 0), ("goto", 11), ("if", 0, 3), ("if", -1, 0), ("if", 999999999, 11))),)
        self.assertTrue(is_book(plan, book))
        self.assertEqual(show_book(book), "\n".join([
            "program ann", "take", "take 0", "take 17", "try", "let", "say 0", "say 99", "goto 0", "goto 11", "if 0 3",
            "if -1 0", "if 999999999 11"]))

    def test_a_program_of_none(self):
        self.assertEqual(show_book((("ann", ()),)), "program ann")

    def test_several_hands(self):
        book = (("ann", ()), ("bob", (("let",),)), ("cy", ()), ("dee", (("take", None), ("goto", 0))), ("eve", ()))
        self.assertEqual(show_book(book), "\n".join([
            "program ann", "program bob", "let", "program cy", "program dee", "take", "goto 0", "program eve"]))

    def test_books_of_all_plans(self):
        for plan in things.plans():
            hands = sorted(hands_of(plan))
            book = tuple((name, (("if", -at, 0),) * (at % 3)) for at, name in enumerate(hands))
            self.assertTrue(is_book(plan, book))
            before = things.twin(book)
            rows = []
            for at, name in enumerate(hands):
                rows.append("program " + name)
                rows += ["if " + ("-" if at else "") + str(at) + " 0"] * (at % 3)
            self.assertEqual(show_book(book), "\n".join(rows))
            self.assertEqual(book, before)


if __name__ == "__main__":
    unittest.main()
