"""All houses to which scripts lead, those in which all idle, and looks at what is told of them."""

import random
import unittest

import model
import rooms
import things
from nearlocks.errors import TooMany
from nearlocks.houses import House
from nearlocks.plans import hands_of
from nearlocks.reaching import MOST, ends, reached
from nearlocks.reachlooks import shows_reached
from nearlocks.scripts import stuck, walk
from rooms import LET, LOOP, TAKE, house_of, picture, run

PLAN = ("all", 1, (("left", 2, ("ann", "bob")), "cy"))
# Its left places grow without end while ann is within.
GIVES_UP = (("take", 0), ("goto", 0))


def says(*many):
    """A house in which each hand only says, so many times."""
    names = things.LETTERS[:len(many)]
    return house_of(("all", 1, tuple(names)), {name: (("say", 7),) * rows for name, rows in zip(names, many)})


def all_by_twins(house, limit=400):
    """The houses by their texts, each gone on from by a twin; None where there are more."""
    found, left = {str(house): house.twin()}, [house.twin()]
    while left:
        one = left.pop()
        for name in hands_of(house.plan):
            other = one.twin()
            other.step(name)
            if str(other) not in found:
                found[str(other)] = other
                left.append(other)
                if len(found) > limit:
                    return None
    return found


def drawn_houses():
    """Small houses of few rows, some of which took steps."""
    for seed in range(160):
        chance = random.Random(seed)
        plan = chance.choice([PLAN, ("all", 1, ("a", "b")), ("all", 1, (("g", 1, ("a", "b")),)),
                              ("all", 1, (("g", 1, ("a",)), ("k", 2, ("b",))))])
        book = []
        for name in sorted(hands_of(plan)):
            many = chance.randrange(4)
            book.append((name, tuple(model.row_of(chance, many) for _ in range(many))))
        house = House(plan, tuple(book))
        walk(house, tuple(chance.choice(hands_of(plan)) for _ in range(chance.randrange(4))))
        yield house


class ReachedTests(unittest.TestCase):
    def asked(self, house, **more):
        before = picture(house)
        told = reached(house, **more)
        self.assertEqual(picture(house), before)
        self.assertIs(type(told), tuple)
        return told

    def test_itself_alone(self):
        house = house_of(PLAN)
        self.assertEqual(self.asked(house), (str(house),))
        house = house_of(PLAN, rest=(TAKE,))
        run(house, "cy ann ann bob bob")
        self.assertEqual(self.asked(house), (str(house),))

    def test_by_hand(self):
        house = house_of(("all", 1, ("b", "a")), {"a": (("say", 1),), "b": (TAKE,)})
        self.assertEqual(self.asked(house), (
            "hand b 0 0 out -\nhand a 0 0 out -\ngroup all - 0 -",
            "hand b 0 0 out -\nhand a 1 0 out -\ngroup all - 0 -",
            "hand b 1 1 within -\nhand a 0 0 out -\ngroup all b 1 -",
            "hand b 1 1 within -\nhand a 1 0 out -\ngroup all b 1 -"))

    def test_a_round(self):
        house = house_of(("all", 1, ("a",)), {"a": LOOP})
        texts = self.asked(house)
        self.assertEqual(len(texts), 3)
        for _ in range(4):
            run(house, "a")
            self.assertEqual(self.asked(house), texts)

    def test_a_step_back_to_itself(self):
        house = house_of(("all", 1, ("a", "b")), {"a": (("goto", 0),), "b": (("if", 0, 0),)})
        self.assertEqual(self.asked(house), (str(house),))

    def test_just_most_and_one_more(self):
        for house, many in ((house_of(PLAN), 1), (says(1), 2), (says(1, 1), 4), (says(2, 3, 4), 60),
                            (house_of(("all", 1, ("a",)), {"a": LOOP}), 3)):
            for most in (many, many + 1, many + 100, 999999999):
                self.assertEqual(len(self.asked(house, most=most)), many)
                self.assertIsInstance(ends(house, most=most), tuple)
            for most in {0, 1, many // 2, many - 1} - {many}:
                self.refused(house, most=most)

    def refused(self, house, **more):
        before = picture(house)
        for call in (reached, ends):
            with self.assertRaises(TooMany) as caught:
                call(house, **more)
            self.assertIs(type(caught.exception), TooMany)
            self.assertEqual(picture(house), before)

    def test_most_left_out(self):
        self.assertEqual(MOST, 2000)
        house = says(19, 9, 9)
        self.assertEqual(len(self.asked(house)), 2000)
        self.assertEqual(len(ends(house)), 1)
        house = says(2, 22, 28)
        self.refused(house)
        self.refused(house, most=2000)
        self.assertEqual(len(self.asked(house, most=2001)), 2001)

    def test_ever_more(self):
        house = house_of(PLAN, {"ann": (TAKE,), "bob": GIVES_UP})
        for most in (0, 1, 10, 300):
            self.refused(house, most=most)
        self.refused(house)

    def test_most_is_told_by_its_name_alone(self):
        for call in (reached, ends):
            with self.assertRaises(TypeError):
                call(house_of(PLAN), 10)

    def test_against_twins(self):
        told, most = 0, 0
        for house in drawn_houses():
            found = all_by_twins(house)
            if found is None:
                self.refused(house, most=400)
                continue
            self.assertEqual(self.asked(house, most=len(found)), tuple(sorted(found)))
            self.refused(house, most=len(found) - 1)
            told, most = told + 1, max(most, len(found))
        self.assertGreater(told, 100)
        self.assertGreater(most, 100)

    def test_scripts_lead_there_and_nowhere_else(self):
        for house in drawn_houses():
            if all_by_twins(house) is None:
                continue
            known = set(reached(house))
            chance = random.Random(5)
            other = house.twin()
            for _ in range(60):
                other.step(chance.choice(hands_of(house.plan)))
                self.assertIn(str(other), known)


class EndsTests(unittest.TestCase):
    def test_by_hand(self):
        house = house_of(("all", 1, ("b", "a")), {"a": (TAKE, LET), "b": (TAKE,)})
        before = picture(house)
        told = ends(house)
        self.assertEqual(picture(house), before)
        # a comes ahead of b and lets go, or stands behind it for ever.
        self.assertEqual(told, (
            ("hand b 1 1 within -\nhand a 0 0 waits -\ngroup all b 1 a", (("b", "ended"), ("a", "waits"))),
            ("hand b 1 1 within -\nhand a 2 0 out -\ngroup all b 1 -", (("b", "ended"), ("a", "ended")))))

    def test_none(self):
        self.assertEqual(ends(house_of(("all", 1, ("a",)), {"a": LOOP})), ())
        self.assertEqual(ends(house_of(("all", 1, ("a",)), {"a": (("goto", 0),)})), ())

    def test_an_end_itself(self):
        house = house_of(PLAN)
        self.assertEqual(ends(house), ((str(house), stuck(house)),))

    def test_against_twins(self):
        many = 0
        for house in drawn_houses():
            found = all_by_twins(house)
            if found is None:
                continue
            expected = sorted((text, stuck(one)) for text, one in found.items() if stuck(one) is not None)
            before = picture(house)
            told = ends(house)
            self.assertEqual(told, tuple(expected))
            self.assertIs(type(told), tuple)
            self.assertEqual(picture(house), before)
            many += len(told)
        self.assertGreater(many, 150)


class ShowsTests(unittest.TestCase):
    def asked(self, house, thing, told):
        before, pictured = picture(house), things.picture(thing)
        self.assertIs(shows_reached(house, thing), told)
        self.assertEqual(picture(house), before)
        self.assertEqual(things.picture(thing), pictured)

    def houses(self):
        yield house_of(PLAN)
        yield says(1, 2)
        for house in list(drawn_houses())[:40]:
            found = all_by_twins(house, 60)
            if found is not None:
                yield house

    def test_what_reached_tells(self):
        for house in self.houses():
            self.asked(house, reached(house), True)

    def test_left_out_twice_exchanged_put_in(self):
        for house in self.houses():
            told = reached(house)
            self.asked(house, (), False)
            self.asked(house, list(told), False)
            self.asked(house, told + told, False)
            self.asked(house, (told,), False)
            for at in range(len(told)):
                self.asked(house, told[:at] + told[at + 1:], False)
                self.asked(house, told[:at] + told[at:at + 1] + told[at:], False)
                for text in ("", "hand", told[at] + "\n", told[at] + " ", told[at].upper(), str(says(1, 2, 3))):
                    if text not in told:
                        self.asked(house, told[:at] + (text,) + told[at:], False)
                        self.asked(house, told[:at] + (text,) + told[at + 1:], False)
                        self.asked(house, tuple(sorted(told + (text,))), False)
                for other in range(at):
                    rows = list(told)
                    rows[at], rows[other] = rows[other], rows[at]
                    self.asked(house, tuple(rows), False)

    def test_other_kinds_in_it(self):
        for house in self.houses():
            told = reached(house)
            for at in range(len(told)):
                for bad in (None, True, 0, told[at].encode(), [told[at]], (told[at],), {}, things.Same(),
                            things.Stranger()):
                    self.asked(house, told[:at] + (bad,) + told[at + 1:], False)
                    self.asked(house, told[:at] + (bad,) + told[at:], False)

    def test_anything(self):
        for house in (house_of(PLAN), says(1), house_of(PLAN, {"ann": (TAKE,), "bob": GIVES_UP})):
            for thing in things.anything() + rooms.no_names():
                self.asked(house, thing, False)
                self.asked(house, (str(house), thing), False)
            self.asked(house, str(house), False)
            self.asked(house, {str(house): 1}, False)

    def test_more_than_most(self):
        house = says(2, 22, 28)
        told = reached(house, most=2001)
        self.asked(house, told, True)
        self.asked(house, told[:-1], False)

    def test_ever_more(self):
        house = house_of(PLAN, {"ann": (TAKE,), "bob": GIVES_UP})
        texts, other = set(), house.twin()
        for name in ("ann",) + ("bob", "bob", "bob", "bob") * 60:
            texts.add(str(other))
            other.step(name)
        self.asked(house, tuple(sorted(texts)), False)
        self.asked(house, (str(house),), False)

    def test_one_houses_are_not_anothers(self):
        one, other = says(1, 2), says(2, 1)
        self.asked(one, reached(other), False)
        self.asked(other, reached(one), False)
        run(one, "a")
        self.asked(one, reached(says(1, 2)), False)


if __name__ == "__main__":
    unittest.main()
