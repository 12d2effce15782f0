"""A desk: every form of line, refusals and what they leave, lots of lines, and the log."""

import random
import unittest

import model
import rooms
import things
from nearlocks.counting import ahead
from nearlocks.desk import KEPT, Desk
from nearlocks.errors import (Endless, LockError, NoBook, NoHouse, NoLine, NoName, NoPlan, NoText, NotWaiting, TooMany,
                              Uneven)
from nearlocks.houses import House
from nearlocks.orders import order
from nearlocks.plans import groups_of, hands_of
from nearlocks.scripts import walk, why
from nearlocks.showing import show_book, show_plan
from nearlocks.touching import meet
from nearlocks.ways import ways

PLAN = "plan group all 1 ; group left 2 ; hand ann ; hand bob ; end ; hand cy ; end"
BOOK = "book program ann ; take ; let ; program bob ; take 0 ; let ; program cy ; take ; say 7 ; let"
LINES = ("hand ann", "group all", "within", "why ann", "order", "ahead ann", "ways", "meet ann bob", "step ann")


def desk_of(*lines):
    desk = Desk()
    for line in lines:
        desk.say(line)
    return desk


def lines_of(plan, book):
    """The lines by which a desk has a house of these."""
    return tuple(word + " " + text.replace("\n", " ; ") for word, text in (("plan", show_plan(plan)),
                                                                          ("book", show_book(book))))


def told(desk, line):
    """An answer, or the name of the refusal's class."""
    try:
        return desk.say(line)
    except LockError as refusal:
        return type(refusal).__name__


def state(desk):
    """All that a desk tells of its plan and house, without what its log has."""
    asked = ["hand ann", "hand bob", "hand cy", "group all", "group left", "within", "ways", "book program zz"]
    return [told(desk, line) for line in asked]


class AnswerTests(unittest.TestCase):
    def test_by_hand(self):
        desk = Desk()
        for line, answer in (
                (PLAN, "done"), (BOOK, "done"), ("within", "-"), ("order", "-"), ("why ann", "-"),
                ("hand cy", "hand cy 0 0 out -"), ("group left", "group left - 0 -"),
                ("step ann", "held ann left ; held left all ; came ann"), ("within", "ann"),
                ("group all", "group all left 1 -"), ("step bob cy", "stood bob left ; stood cy all"),
                ("why ann", "ties"), ("hand bob", "hand bob 0 0 loose 0"), ("order", "bob cy"), ("ahead cy", "1"),
                ("ahead bob", "0"), ("meet ann bob", "yes"), ("meet bob cy", "no"), ("meet cy cy", "yes"),
                ("step ann bob bob", "idle ann ties ; tied bob ; left bob"), ("group left", "group left ann 1 bob!"),
                ("hand bob", "hand bob 1 0 out -"), ("why bob", "-"), ("order", "cy"), ("step bob", "lack bob"),
                ("hand bob", "hand bob 2 -1 out -"), ("why bob", "ended"), ("step cy", "tied cy"), ("why cy", "waits"),
                ("ways", "1"), ("step ann", "let ann ; passed bob left ; bare left ; handed cy all near ; came cy"),
                ("step cy cy cy", "said cy 7 ; let cy ; bare all ; idle cy ended"), ("ways", "1"), ("within", "-"),
                ("group all", "group all - 0 -"), ("why cy", "ended")):
            answered = desk.say(line)
            self.assertEqual(answered, answer, line)
            self.assertIs(type(answered), str)
        self.assertEqual(set(desk.log()), {"said"})

    def test_a_new_plan_leaves_no_house(self):
        desk = desk_of(PLAN, BOOK, "step ann")
        self.assertEqual(desk.say("plan group x 1 ; hand y ; end"), "done")
        for line in LINES:
            rooms.refused(self, NoHouse, desk.say, line)
        self.assertEqual(desk.say("book program y ; say 1"), "done")
        self.assertEqual(desk.say("hand y"), "hand y 0 0 out -")

    def test_the_same_plan_anew_leaves_no_house(self):
        desk = desk_of(PLAN, BOOK, "step ann", PLAN)
        rooms.refused(self, NoHouse, desk.say, "within")
        self.assertEqual(desk.say(BOOK), "done")
        self.assertEqual(desk.say("within"), "-")

    def test_a_new_book_begins_anew(self):
        desk = desk_of(PLAN, BOOK, "step ann bob", BOOK)
        self.assertEqual(state(desk), state(desk_of(PLAN, BOOK)))
        desk.say("step cy")
        desk.say("book program ann ; program bob ; say 3 ; program cy")
        self.assertEqual(desk.say("step bob cy"), "said bob 3 ; idle cy ended")

    def test_numbers_in_events(self):
        desk = desk_of("plan group g 1 ; hand a ; end", "book program a ; say 0 ; goto 2 ; if -5 0 ; if 0 0")
        self.assertEqual(desk.say("step a a a a"), "said a 0 ; went a 2 ; went a 3 ; went a 0")

    def test_desks_are_apart(self):
        one, other = desk_of(PLAN, BOOK), desk_of(PLAN, BOOK)
        one.say("step ann")
        self.assertEqual(other.say("within"), "-")
        self.assertEqual((len(one.log()), len(other.log())), (3, 3))
        self.assertEqual(Desk().log(), ())

    def test_as_the_functions_tell(self):
        many = 0
        for seed in range(60):
            chance = random.Random(seed)
            plan = model.small(seed)
            book = model.book_of(plan, seed)
            house = House(plan, book)
            desk = desk_of(*lines_of(plan, book))
            for _ in range(60):
                line = self.drawn(plan, chance)
                self.assertEqual(told(desk, line), self.expected(house, line), line)
                many += 1
        self.assertGreater(many, 3000)

    def drawn(self, plan, chance):
        hands, names = hands_of(plan), hands_of(plan) + groups_of(plan) + ("nobody",)
        if chance.randrange(2):
            many = chance.randrange(1, 6)
            return " ".join(["step"] + [chance.choice(hands if chance.randrange(20) else names) for _ in range(many)])
        word = chance.choice(["hand", "group", "within", "why", "order", "ahead", "meet"])
        many = {"within": 0, "order": 0, "meet": 2}.get(word, 1)
        return " ".join([word] + [chance.choice(names) for _ in range(many)])

    def expected(self, house, line):
        word, *names = line.split(" ")
        calls = {"hand": lambda name: [row for row in str(house).split("\n") if row.startswith(f"hand {name} ")][0],
                 "group": lambda name: [row for row in str(house).split("\n") if row.startswith(f"group {name} ")][0],
                 "within": lambda: house.within() or "-", "why": lambda name: why(house, name) or "-",
                 "order": lambda: " ".join(order(house)) or "-", "ahead": lambda name: str(ahead(house, name)),
                 "meet": lambda one, other: {True: "yes", False: "no"}[meet(house, one, other)]}
        if word == "step":
            if not set(names) <= set(hands_of(house.plan)):
                return "NoName"
            return " ; ".join(" ".join(map(str, event)) for step in walk(house, tuple(names)) for event in step)
        if word in ("hand", "group") and names[0] not in (hands_of if word == "hand" else groups_of)(house.plan):
            return "NoName"
        try:
            return calls[word](*names)
        except LockError as refusal:
            return type(refusal).__name__

    def test_ways(self):
        for seed in range(40):
            chance = random.Random(seed)
            plan = ("all", 1, (("g", 1, ("a", "b")), "c"))
            book = tuple((name, chance.choice([(), (("take", None), ("let",)), (("say", 1),), (("take", 0),)]))
                         for name in "abc")
            desk = desk_of(*lines_of(plan, book))
            self.assertEqual(desk.say("ways"), str(ways(House(plan, book))))


class RefusedTests(unittest.TestCase):
    def desks(self):
        return [Desk(), desk_of(PLAN), desk_of(PLAN, BOOK), desk_of(PLAN, BOOK, "step ann bob")]

    def refused(self, known, desk, line):
        """Refused so, nothing but the log being changed; the refusal."""
        before, pictured = state(desk), things.picture(line)
        log = desk.log()
        refusal = rooms.refused(self, known, desk.say, line)
        self.assertEqual(desk.log(), log + ("refused",))
        self.assertEqual(state(desk), before)
        self.assertEqual(things.picture(line), pictured)
        return refusal

    def test_no_line(self):
        for desk in self.desks():
            for line in ("", " ", "plan", "book", "plans x", "Plan x", " plan x", " plan", "planx", "step", "step ",
                         " step ann",
                         "step  ann", "step ann ", "step ann  bob", "step Ann", "step ann 1", "step ann,bob",
                         "step ann bob-",
                         "steps ann", "hand", "hand ", "hand ann bob", "hand  ann", "hand ann ", "hand Ann", "hand 1",
                         "hand -", "Hand ann", "group", "group ", "group all left", "group all ", "group ALL",
                         "group a1",
                         "within ", "within ann", " within", "Within", "why", "why ", "why ann bob", "why ann ",
                         "why Ann",
                         "order ", "order ann", " order", "orders", "ahead", "ahead ", "ahead ann bob", "ahead ANN",
                         "ahead ann ", "ways ", "ways 100", " ways", "way", "meet", "meet ann", "meet ann ",
                         "meet ann bob cy",
                         "meet  ann bob", "meet ann  bob", "meet ann bob ", "meet Ann bob", "meet ann Bob",
                         "meet ann 1",
                         "end", "take", "open", "shut", "said", "refused", "log", "stuck", "reached", "-", ";", " ; ",
                         "step ann ; step bob", "within ; order", "hand\tann", "step\tann", "program ann", "hand ann!"):
                self.refused(NoLine, desk, line)

    def test_no_texts(self):
        for desk in (Desk(), desk_of(PLAN, BOOK, "step ann bob")):
            before, many = state(desk), len(desk.log()) + 8
            for thing in things.anything() + [b"within", ["within"], ("within",), {"within": 1}, things.Same(), Desk()]:
                if not isinstance(thing, str) or "\n" not in thing:
                    pictured = things.picture(thing)
                    rooms.refused(self, NoLine, desk.say, thing)
                    self.assertEqual(things.picture(thing), pictured)
                    self.assertEqual(desk.log()[-1], "refused")
            self.assertEqual(state(desk), before)
            self.assertGreater(len(desk.log()), many)

    def test_no_house(self):
        for desk in (Desk(), desk_of(PLAN)):
            for line in LINES + ("hand nobody", "step nobody", "meet x y", "group ann", "ahead left", "step abcdefghi"):
                self.refused(NoHouse, desk, line)
        for line in (BOOK, "book ", "book nothing", "book program ann"):
            self.refused(NoHouse, Desk(), line)

    def test_plans_that_are_none(self):
        for desk in self.desks():
            for text, row in (("", 0), (" ", 0), ("hand a", 0), ("group a 1", 1), ("group a 1 ; hand b", 2),
                              ("group a 1 ; end", 1), ("group a 1 ; hand b ; end ; ", 3), ("group a 1;hand b;end", 0),
                              ("group a 1 ;  hand b ; end", 1), (" group a 1 ; hand b ; end", 0), (PLAN, 0),
                              ("group a 1 ; hand b ; end ;", 2), ("group a 1 ;  ; hand b ; end", 1)):
                self.assertEqual(self.refused(NoText, desk, "plan " + text).row, row, text)
            for text in ("group a 0 ; hand b ; end", "group a 1 ; hand a ; end", "group a 1 ; hand abcdefghi ; end"):
                self.refused(NoPlan, desk, "plan " + text)

    def test_books_that_are_none(self):
        for desk in self.desks()[1:]:
            for text, row in (("", 0), (" ", 0), ("take", 0), ("program ann ; takes", 1), ("program ann;take", 0),
                              ("program ann ; take ; program", 2), ("program ann ; ", 1), ("program Ann", 0)):
                self.assertEqual(self.refused(NoText, desk, "book " + text).row, row, text)
            for text in ("program ann", "program ann ; program bob ; program dee",
                         "program ann ; say 100 ; program bob ; program cy",
                         "program bob ; program ann ; program cy"):
                self.refused(NoBook, desk, "book " + text)

    def test_no_name(self):
        desk = desk_of(PLAN, BOOK, "step ann bob")
        for line, name in (("hand nobody", "nobody"), ("hand left", "left"), ("group ann", "ann"), ("group x", "x"),
                           ("why all", "all"), ("why x", "x"), ("ahead left", "left"), ("ahead x", "x"),
                           ("meet x y", "x"), ("meet ann y", "y"), ("meet left ann", "left"), ("meet ann all", "all"),
                           ("step x", "x"), ("step left", "left"), ("step ann x y", "x"), ("hand abcdefghi",
                                                                                           "abcdefghi")):
            self.assertEqual(self.refused(NoName, desk, line).name, name)

    def test_a_step_that_is_refused_at_its_last_name(self):
        for names in ("bob", "bob ann", "bob bob cy", "cy cy cy cy cy"):
            for last in ("nobody", "left", "all"):
                desk = desk_of(PLAN, BOOK, "step ann bob")
                self.assertEqual(self.refused(NoName, desk, f"step {names} {last}").name, last)
                self.assertEqual(self.refused(NoName, desk, f"step {last} {names}").name, last)

    def test_as_the_functions(self):
        desk = desk_of(PLAN, BOOK, "step ann")
        self.refused(NotWaiting, desk, "ahead ann")
        self.refused(NotWaiting, desk, "ahead cy")
        desk = desk_of("plan group all 1 ; group g 2 ; hand ann ; group left 2 ; hand bob ; hand cy ; end ; end ; end",
                       "book program ann ; take ; program bob ; take ; program cy", "step ann bob")
        self.refused(Uneven, desk, "ahead bob")
        self.refused(NotWaiting, desk, "ahead ann")
        desk = desk_of(PLAN, "book program ann ; goto 0 ; program bob ; program cy")
        self.refused(Endless, desk, "ways")
        says = " ; ".join(["say 1"] * 28)
        desk = desk_of(PLAN, f"book program ann ; {says} ; program bob ; {says} ; program cy ; {says}")
        many = len(desk.log())
        rooms.refused(self, TooMany, desk.say, "ways")
        self.assertEqual(desk.log()[many:], ("refused",))


class AllTests(unittest.TestCase):
    def test_answers(self):
        desk = Desk()
        self.assertEqual(desk.say_all(()), ())
        self.assertEqual(desk.say_all((PLAN, BOOK, "step ann", "within")),
                         ("done", "done", "held ann left ; held left all ; came ann", "ann"))
        self.assertEqual(desk.say_all(("within",), keep=False), ("ann",))
        self.assertEqual(desk.say("within"), "ann")

    def test_as_say_after_say(self):
        for keep in ({}, {"keep": True}, {"keep": False}):
            one, other = Desk(), Desk()
            lines = (PLAN, BOOK, "step ann bob", "hand bob", "step bob bob", "order", "why cy", "meet ann cy", "ways")
            answers = one.say_all(lines, **keep)
            self.assertIs(type(answers), tuple)
            self.assertEqual(answers, tuple(other.say(line) for line in lines))
            self.assertEqual(one.log(), ("open",) + other.log() + ("shut",))
            self.assertEqual(state(one), state(other))

    def test_kept(self):
        self.assertIs(KEPT, True)

    def test_keep_is_told_by_its_name_alone(self):
        with self.assertRaises(TypeError):
            Desk().say_all((), True)

    def refused(self, known, ahead, lines, keep):
        """A desk of the lines ahead, to which these were said, refused so; and one to which just the told ones were."""
        desk = desk_of(*ahead)
        before = desk.log()
        with self.assertRaises(known) as caught:
            desk.say_all(lines, **keep)
        self.assertIs(type(caught.exception), known)
        at = next(number for number, line in enumerate(lines)
                  if told(desk_of(*ahead, *lines[:number]), line) == known.__name__)
        self.assertEqual(desk.log(), before + ("open",) + ("said",) * at + ("refused", "shut"))
        other = desk_of(*ahead, *(lines[:at] if keep.get("keep", True) else ()))
        self.assertEqual(state(desk), state(other))
        # What comes behind it comes as of that house.
        for line in ("step cy", "step bob cy", "within"):
            self.assertEqual(told(desk, line), told(other, line))
        return caught.exception

    def test_refused_in_its_midst(self):
        for keep in ({}, {"keep": True}, {"keep": False}):
            self.refused(NoHouse, (), (PLAN, "within", BOOK), keep)
            self.refused(NoLine, (), (PLAN, BOOK, "nothing", "step ann"), keep)
            self.refused(NoText, (PLAN, BOOK), ("step ann", "plan group x 1 ; hand y ; end", "book bad"), keep)
            self.refused(NoHouse, (PLAN, BOOK, "step ann"), ("step bob", "plan group x 1 ; hand y ; end",
                                                             "within"), keep)
            self.refused(NoName, (PLAN, BOOK, "step ann"), ("step bob", "step bob", "step cy nobody", "step cy"), keep)
            self.refused(NoName, (PLAN, BOOK, "step ann"), ("step bob cy bob", BOOK, "step cy", "hand left"), keep)
            self.refused(NoPlan, (PLAN, BOOK), ("step bob cy bob", "plan group a 0 ; hand b ; end"), keep)
            self.refused(NoBook, (PLAN,), (BOOK, "step ann", "book program ann"), keep)
            self.refused(NotWaiting, (PLAN, BOOK), ("step ann", "step ann", "ahead ann"), keep)
            self.refused(NoLine, (), ("nothing",), keep)
            self.refused(NoLine, (PLAN, BOOK), ("", BOOK), keep)

    def test_of_anything_in_it(self):
        bad = [thing for thing in things.anything() if not isinstance(thing, str)] + [things.Same(), None, (),
                                                                                      ["within"]]
        for keep in (True, False):
            desk = desk_of(PLAN, BOOK)
            before = state(desk)
            for thing in bad:
                with self.assertRaises(NoLine):
                    desk.say_all(("within", thing, "step ann"), keep=keep)
                self.assertEqual(desk.log()[-4:], ("open", "said", "refused", "shut"))
            self.assertEqual(state(desk), before)

    def test_the_value_of_a_refusal(self):
        for keep in (True, False):
            desk = desk_of(PLAN, BOOK)
            with self.assertRaises(NoName) as caught:
                desk.say_all(("step ann", "step bob nobody"), keep=keep)
            self.assertEqual(caught.exception.name, "nobody")
            with self.assertRaises(NoText) as caught:
                desk.say_all(("step cy", "book program ann ; takes"), keep=keep)
            self.assertEqual(caught.exception.row, 1)

    def test_lots_of_lines(self):
        # Drawn lines, some of them wrong, by lots; against a desk that is told just what stays.
        for seed in range(40):
            chance, desk, kept, log = random.Random(seed), Desk(), [], []
            for _ in range(12):
                lines = tuple(chance.choice((PLAN, BOOK, BOOK, "step ann", "step bob", "step cy bob",
                                             "step ann nobody", "within",
                                             "order", "step cy", "nothing", "plan x", "book ", None, "ahead bob"))
                              for _ in range(chance.randrange(5)))
                self.lot(chance, desk, kept, log, lines)
                self.assertEqual(desk.log(), tuple(log))
            self.assertEqual(state(desk), state(desk_of(*kept)))

    def lot(self, chance, desk, kept, log, lines):
        good = []
        for line in lines:
            if told(desk_of(*kept, *good), line) in ("NoLine", "NoHouse", "NoName", "NoText", "NotWaiting"):
                break
            good.append(line)
        whole, keep = len(good) == len(lines), chance.choice([True, False])
        try:
            answers = desk.say_all(lines, keep=keep)
            self.assertTrue(whole)
            self.assertEqual(len(answers), len(lines))
        except LockError:
            self.assertFalse(whole)
        log += ["open"] + ["said"] * len(good) + ["refused"] * (not whole) + ["shut"]
        if whole or keep:
            kept += good


class LogTests(unittest.TestCase):
    def test_log(self):
        desk = Desk()
        self.assertEqual(desk.log(), ())
        desk.say(PLAN)
        told(desk, "within")
        told(desk, 5)
        desk.say_all(())
        desk.say_all((BOOK, "within"))
        with self.assertRaises(NoLine):
            desk.say_all(("within", "nothing", "within"), keep=False)
        log = desk.log()
        self.assertEqual(log, ("said", "refused", "refused", "open", "shut", "open", "said", "said", "shut", "open",
                               "said",
                               "refused", "shut"))
        self.assertIs(type(log), tuple)
        desk.say("within")
        self.assertEqual(len(log), 13)
        self.assertEqual(desk.log(), log + ("said",))


if __name__ == "__main__":
    unittest.main()
