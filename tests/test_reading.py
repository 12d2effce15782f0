"""Plans and books read from texts: as they were written, and refused at the first row that is wrong."""

import random
import re
import unittest

import model
import rooms
import things
from nearlocks.errors import NoBook, NoPlan, NoText
from nearlocks.plans import hands_of, is_plan
from nearlocks.programs import is_book
from nearlocks.reading import read_book, read_plan
from nearlocks.showing import show_book, show_plan

NUMBER = "(0|[1-9][0-9]{0,8})"
PLAN_ROW = re.compile(f"group [a-z]+ {NUMBER}|hand [a-z]+|end")
BOOK_ROW = re.compile(f"program [a-z]+|take|take {NUMBER}|try|let|(say|goto) {NUMBER}|if (-(?!0)|){NUMBER} {NUMBER}")
PLAN = ("all", 1, (("left", 2, ("ann", "bob")), "cy"))
PLAN_TEXT = "group all 1\ngroup left 2\nhand ann\nhand bob\nend\nhand cy\nend"
BOOK = (("ann", (("take", None), ("let",), ("goto", 0))), ("bob", ()),
        ("cy", (("take", 3), ("try",), ("say", 99), ("if", -1, 0), ("if", 7, 4))))
BOOK_TEXT = "program ann\ntake\nlet\ngoto 0\nprogram bob\nprogram cy\ntake 3\ntry\nsay 99\nif -1 0\nif 7 4"


def wrong_plan_row(text):
    """The number of the first row that is wrong, or how many there are where more must come; else None."""
    depth, rows = 0, text.split("\n")
    for at, row in enumerate(rows):
        if not PLAN_ROW.fullmatch(row) or depth == 0 and (at > 0 or not row.startswith("group")):
            return at
        if row == "end" and rows[at - 1].startswith("group"):
            return at
        depth += row.startswith("group") - (row == "end")
    return len(rows) if depth else None


def wrong_book_row(text):
    for at, row in enumerate(text.split("\n")):
        if not BOOK_ROW.fullmatch(row) or at == 0 and not row.startswith("program"):
            return at
    return None


def plan_by(text):
    """What a right text means, told by Python's own reading of tuples."""
    rows = [re.sub(r"group (\w+) (\w+)", r"('\1',\2,(", row) for row in text.split("\n")]
    rows = [re.sub(r"hand (\w+)", r"'\1',", row) for row in rows]
    return eval("".join(["))," if row == "end" else row for row in rows]).rstrip(","))


def book_by(text):
    found = []
    for row in text.split("\n"):
        word, *rest = row.split(" ")
        if word == "program":
            found.append((rest[0], []))
        else:
            found[-1][1].append((word, *[int(one) for one in rest]) if row != "take" else ("take", None))
    return tuple((name, tuple(rows)) for name, rows in found)


def changed(text, chance):
    """The same text with a row, a word or a sign left out, twice, exchanged with another, or put in."""
    parted = chance.choice(["\n", "\n", " ", ""])
    parts = text.split(parted) if parted else list(text)
    kind, at, other = chance.randrange(4), chance.randrange(len(parts)), chance.randrange(len(parts))
    if kind == 0:
        del parts[at]
    elif kind == 1:
        parts.insert(at, parts[at])
    elif kind == 2:
        parts[at], parts[other] = parts[other], parts[at]
    else:
        parts.insert(at, chance.choice({
            "\n": ["end", "hand q", "group q 3", "", "take", "let 1", "program q", "say 5", "goto 99", "Hand q",
                   "hand"],
            " ": ["", "q", "7", "0", "end", "hand", "-1", "qqqqqqqqq"], "": list(" aA0-9\n~;!")}[parted]))
    return parted.join(parts)


class PlanTests(unittest.TestCase):
    def asked(self, text):
        """Reads the text, told right or refused as the other telling has it; what came of it."""
        row = wrong_plan_row(text)
        if row is not None:
            self.assertEqual(rooms.refused(self, NoText, read_plan, text).row, row, text)
            return "text"
        plan = plan_by(text)
        if not is_plan(plan):
            rooms.refused(self, NoPlan, read_plan, text)
            return "plan"
        told = read_plan(text)
        self.assertEqual(told, plan)
        self.assertEqual(show_plan(told), text)
        return "read"

    def test_by_hand(self):
        self.assertEqual(read_plan(PLAN_TEXT), PLAN)
        self.assertEqual(read_plan("group a 999999999\nhand b\nend"), ("a", 999999999, ("b",)))

    def test_what_is_written(self):
        for plan in things.plans() + [model.small(seed) for seed in range(40)]:
            told = read_plan(show_plan(plan))
            self.assertEqual(told, plan)
            self.assertIs(type(told), tuple)
            self.assertEqual(self.asked(show_plan(plan)), "read")

    def test_changed_texts(self):
        found = {}
        texts = [show_plan(plan) for plan in things.plans()[:4] + [model.small(seed) for seed in range(30)]]
        for seed in range(6000):
            chance = random.Random(seed)
            text = changed(chance.choice(texts), chance)
            if chance.randrange(3) == 0 and text:
                text = changed(text, chance)
            came = self.asked(text)
            found[came] = found.get(came, 0) + 1
        for came in ("text", "plan", "read"):
            self.assertGreater(found[came], 100, found)

    def refused(self, text, row):
        self.assertEqual(rooms.refused(self, NoText, read_plan, text).row, row)
        self.assertEqual(wrong_plan_row(text), row)

    def test_rows_without_a_form(self):
        for bad in ("", " ", "group", "group q", "group q 1 1", "group q 1 ", " group q 1", "group  q 1", "group Q 1",
                    "group q -1", "group q 01", "group q 00", "group q 1234567890", "group q x", "group q1 1",
                    "group 1 q",
                    "group q ", "group  1", "group q 1.0", "group q +1", "hand", "hand ", "hand q q", "hand Q",
                    "hand 1",
                    "hand q1", " hand q", "hand  q", "hand q ", "end ", " end", "end end", "End", "ende", "en",
                    "member q",
                    "take", "program q", "group q 1;hand b", "hand a_b", "hand a-b", "end\t", "hand\tq", "group q 1!"):
            self.refused(bad, 0)
            self.refused("group a 1\n" + bad, 1)
            self.refused("group a 1\nhand b\n" + bad, 2)
            self.refused("group a 1\nhand b\n" + bad + "\nend", 2)
            self.refused("group a 1\ngroup c 2\nhand b\nend\n" + bad + "\nbad row\nend", 4)

    def test_rows_where_they_cannot_stand(self):
        self.refused("hand a", 0)
        self.refused("end", 0)
        self.refused("hand a\ngroup b 1\nhand c\nend", 0)
        self.refused("group a 1\nend", 1)
        self.refused("group a 1\nhand b\ngroup c 1\nend\nend", 3)
        for more in ("end", "hand c", "group c 1", "", "bad", "group c 1\nhand d\nend", "\n"):
            self.refused("group a 1\nhand b\nend\n" + more, 3)
        self.refused(PLAN_TEXT + "\n", 7)

    def test_more_must_come(self):
        rows = PLAN_TEXT.split("\n")
        for many in range(1, len(rows)):
            self.refused("\n".join(rows[:many]), many)
        self.refused("group a 1", 1)
        self.refused("group a 1\ngroup b 1\nhand c\nend", 4)
        self.refused("\n".join(["group a 1"] * 1800), 1800)

    def test_the_empty_text(self):
        self.refused("", 0)
        self.refused("\n", 0)

    def test_the_first_wrong_row_is_told(self):
        self.refused("group a 1\nhand 1\nhand 2\nend\nend", 1)
        # No plan, too: two are called a. But a row is wrong.
        self.refused("group a 1\nhand a\nend\nend", 3)
        self.refused("group a 0\nhand b", 2)

    def test_no_text(self):
        for thing in things.anything() + [PLAN, b"group a 1\nhand b\nend", ["group a 1", "hand b",
                                                                            "end"], things.Same()]:
            if not isinstance(thing, str):
                pictured = things.picture(thing)
                self.assertEqual(rooms.refused(self, NoText, read_plan, thing).row, 0)
                self.assertEqual(things.picture(thing), pictured)
            else:
                self.asked(thing)

    def test_no_plan(self):
        for text in ("group a 0\nhand b\nend", "group a 1\nhand a\nend", "group a 1\nhand b\nhand b\nend",
                     "group a 1\ngroup a 1\nhand b\nend\nend", "group a 1\ngroup b 0\nhand c\nend\nend",
                     "group a 1\nhand abcdefghi\nend", "group abcdefghi 1\nhand a\nend",
                     "group a 1\nhand " + "q" * 15000 + "\nend",
                     "group a 1\ngroup b 2\nhand c\nend\ngroup d 1\nhand c\nend\nend"):
            self.assertIsNone(wrong_plan_row(text))
            rooms.refused(self, NoPlan, read_plan, text)

    def test_groups_within_one_another_far_down(self):
        # However deep, what is no plan is refused as such.
        many = 800
        for last in ("hand b", "hand toolonger", "hand B"):
            text = "\n".join(["group a 1"] * many + [last] + ["end"] * many)
            if last == "hand B":
                self.refused(text, many)
            else:
                rooms.refused(self, NoPlan, read_plan, text)
        names = ["".join((one, two)) for one in things.LETTERS for two in things.LETTERS]
        rows = [f"group {name} 1" for name in names]
        rooms.refused(self, NoPlan, read_plan, "\n".join(rows + ["hand toolonger"] + ["end"] * len(names)))

    def test_figures(self):
        for number in (1, 9, 10, 99, 100, 999999999, 100000000):
            self.assertEqual(read_plan(f"group a {number}\nhand b\nend"), ("a", number, ("b",)))
        for number in ("1000000000", "9999999999", "0000000001", "01", "00", "-1", "-0", "+1", "1_0", " 1", "1 "):
            self.refused(f"group a {number}\nhand b\nend", 0)


class BookTests(unittest.TestCase):
    def asked(self, plan, text):
        row = wrong_book_row(text)
        if row is not None:
            self.assertEqual(rooms.refused(self, NoText, read_book, plan, text).row, row, text)
            return "text"
        book = book_by(text)
        if not is_book(plan, book):
            rooms.refused(self, NoBook, read_book, plan, text)
            return "book"
        told = read_book(plan, text)
        self.assertEqual(told, book)
        self.assertEqual(show_book(told), text)
        return "read"

    def test_by_hand(self):
        self.assertEqual(read_book(PLAN, BOOK_TEXT), BOOK)
        self.assertEqual(read_book(PLAN, "program ann\nprogram bob\nprogram cy"), (("ann", ()), ("bob", ()),
                                                                                   ("cy", ())))

    def test_what_is_written(self):
        for seed, plan in enumerate(things.plans() + [model.small(seed) for seed in range(40)]):
            book = model.book_of(plan, seed)
            told = read_book(plan, show_book(book))
            self.assertEqual(told, book)
            self.assertIs(type(told), tuple)
            self.assertEqual(self.asked(plan, show_book(book)), "read")

    def test_changed_texts(self):
        found = {}
        plans = [PLAN] + [model.small(seed) for seed in range(20)]
        texts = [show_book(model.book_of(plan, seed)) for seed, plan in enumerate(plans)]
        for seed in range(6000):
            chance = random.Random(seed)
            at = chance.randrange(len(plans))
            text = changed(texts[at], chance)
            if chance.randrange(3) == 0 and text:
                text = changed(text, chance)
            came = self.asked(plans[at], text)
            found[came] = found.get(came, 0) + 1
        for came in ("text", "book", "read"):
            self.assertGreater(found[came], 100, found)

    def refused(self, text, row):
        self.assertEqual(rooms.refused(self, NoText, read_book, PLAN, text).row, row)
        self.assertEqual(wrong_book_row(text), row)

    def test_rows_without_a_form(self):
        for bad in ("", " ", "take ", " take", "take  3", "take -1", "take 03", "take 1234567890", "take x",
                    "take None",
                    "take -", "take 3 3", "try 1", "try ", "let 0", "let ", "say", "say -1", "say x", "say 1 2",
                    "say 007",
                    "goto", "goto -1", "goto a", "goto 1 1", "goto 00", "if", "if 1", "if 1 2 3", "if 1 -2", "if -0 1",
                    "if -01 1", "if - 1", "if --1 1", "if +1 1", "if 01 1", "if 1234567890 1", "if -1234567890 1",
                    "if 1 1234567890", "if x 1", "if 1 x", "if  1 1", "program", "program ", "program A", "program a b",
                    "program a1", "program  ann", " program ann", "program ann ", "Take", "hand ann", "end",
                    "group a 1",
                    "takes", "idle", "take\t", "\tlet"):
            self.refused(bad, 0)
            self.refused("program ann\n" + bad, 1)
            self.refused("program ann\ntake\n" + bad + "\nlet\nbad row", 2)
            self.refused(BOOK_TEXT + "\n" + bad, 11)

    def test_rows_ahead_of_the_first_program(self):
        for row in ("take", "take 3", "try", "let", "say 5", "goto 0", "if 0 0", "if -5 0"):
            self.refused(row, 0)
            self.refused(row + "\n" + BOOK_TEXT, 0)

    def test_the_empty_text(self):
        self.refused("", 0)
        self.refused("\n" + BOOK_TEXT, 0)
        self.refused(BOOK_TEXT + "\n", 11)

    def test_no_text(self):
        for thing in things.anything() + [BOOK, BOOK_TEXT.encode(), BOOK_TEXT.split("\n"), None, things.Same()]:
            if not isinstance(thing, str):
                pictured = things.picture(thing)
                self.assertEqual(rooms.refused(self, NoText, read_book, PLAN, thing).row, 0)
                self.assertEqual(things.picture(thing), pictured)
            else:
                self.asked(PLAN, thing)

    def test_no_book(self):
        for text in ("program ann", "program ann\nprogram bob", "program ann\nprogram bob\nprogram cy\nprogram dee",
                     "program bob\nprogram ann\nprogram cy", "program ann\nprogram bob\nprogram bob\nprogram cy",
                     "program ann\nprogram bob\nprogram dee", "program ann\nprogram bob\nprogram cy\nprogram left",
                     "program ann\nsay 100\nprogram bob\nprogram cy", "program ann\ngoto 1\nprogram bob\nprogram cy",
                     "program ann\nif 0 1\nprogram bob\nprogram cy", "program ann\nprogram bob\nprogram abcdefghi",
                     "program ann\nprogram bob\nprogram cy\nsay 999999999"):
            self.assertIsNone(wrong_book_row(text))
            rooms.refused(self, NoBook, read_book, PLAN, text)

    def test_figures(self):
        for number in ("0", "9", "10", "99", "999999999", "100000000"):
            rows = f"if {number} 0\nif -1{number[1:]} 0"
            book = read_book(PLAN, f"program ann\ntake {number}\nprogram bob\n{rows}\nprogram cy")
            self.assertEqual(book[0][1], (("take", int(number)),))
            self.assertEqual(book[1][1], (("if", int(number), 0), ("if", -int("1" + number[1:]), 0)))

    def test_no_plan(self):
        # A row that is wrong is told first.
        for thing in things.anything():
            rooms.refused(self, NoPlan, read_book, thing, BOOK_TEXT)
            self.assertEqual(rooms.refused(self, NoText, read_book, thing, "program ann\nbad").row, 1)


if __name__ == "__main__":
    unittest.main()
