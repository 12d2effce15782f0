"""The ways from a house to its ends: how many, in which orders, and the most that come behind a taking."""

import math
import random
import unittest
from collections import Counter

import model
import rooms
from nearlocks.errors import Endless, TooMany
from nearlocks.houses import House
from nearlocks.plans import groups_of, hands_of
from nearlocks.reaching import MOST, ends, reached
from nearlocks.scripts import stuck, walk
from nearlocks.tales import comings
from nearlocks.ways import greatest, orders, ways
from rooms import LET, LOOP, TAKE, house_of, picture, run
from test_reaching import GIVES_UP, PLAN, says

ONCE = (TAKE, LET)


def all_ways(house, limit):
    """All scripts without idle steps to an end, each as its tuple of events; None where there are more than limit."""
    found, left = [], [(house.twin(), ())]
    while left:
        one, events = left.pop()
        ended = True
        for name in hands_of(house.plan):
            other = one.twin()
            told = other.step(name)
            if told[0][0] != "idle":
                ended = False
                left.append((other, events + (told,)))
        if ended:
            found.append(events)
        if len(found) + len(left) > limit:
            return None
    return found


def greatest_by(found, name):
    """The same, looked for in each way, from each taking on."""
    most = None
    for events in found:
        for at, told in enumerate(events):
            if told[0][0] in ("stood", "held") and told[0][1] == name and ("came", name) not in told:
                many = 0
                for event in [event for step in events[at + 1:] for event in step]:
                    if event in (("came", name), ("left", name)):
                        break
                    many += event[0] == "came"
                most = many if most is None else max(most, many)
    return most


def drawn_houses():
    """Small houses without a way back, some of which took steps."""
    for seed in range(200):
        chance = random.Random(seed)
        plan = chance.choice([PLAN, ("all", 1, ("a", "b")), ("all", 1, (("g", 1, ("a", "b")), "c")),
                              ("all", 1, (("g", 1, ("a",)), ("k", 2, ("b",)))),
                              ("all", 1, (("g", 1, (("k", 1, ("a", "b")), "c")),))])
        if seed % 4 == 0:
            # Two may come near ahead of c.
            plan = ("all", 1, (("g", 3, ("a", "b")), "c"))
        book = []
        for name in sorted(hands_of(plan)):
            rows = [row for row in (model.row_of(chance, 1) for _ in range(3)) if row[0] not in ("goto", "if", "say")]
            rows = chance.choice([rows[:2], ONCE, ONCE, (("take", 0), LET), (TAKE,)])
            book.append((name, tuple(rows)))
        if seed % 4 == 0:
            book[0] = (book[0][0], ONCE + ONCE)
        house = House(plan, tuple(book))
        walk(house, tuple(chance.choice(hands_of(plan)) for _ in range(chance.randrange(4))))
        yield house


class PlainTests(unittest.TestCase):
    """Against a plain going through all scripts."""

    def test_drawn_houses(self):
        many, most, sizes = 0, 0, Counter()
        for house in drawn_houses():
            found = all_ways(house, 2500)
            if found is None:
                continue
            before = picture(house)
            self.assertEqual(ways(house), len(found))
            told = orders(house)
            self.assertEqual(told, tuple(sorted(Counter(comings(events) for events in found).items())))
            self.assertEqual(sum(number for came, number in told), ways(house))
            for name in hands_of(house.plan):
                expected = greatest_by(found, name)
                self.assertEqual(greatest(house, name), expected)
                sizes[expected] += 1
            self.assertEqual(picture(house), before)
            many, most = many + 1, max(most, len(found))
        self.assertGreater(many, 120)
        self.assertGreater(most, 1000)
        self.assertGreater(min(sizes[None], sizes[0], sizes[1], sizes[2] * 4), 20, sizes)


class WaysTests(unittest.TestCase):
    def test_hands_that_only_say(self):
        # As many ways as there are mixtures of their rows.
        for many in ((0,), (1,), (5,), (1, 1), (3, 4), (10, 12), (2, 3, 4), (1, 1, 1, 1), (2, 2, 2, 2)):
            house = says(*many)
            mixtures = math.factorial(sum(many)) // math.prod(math.factorial(rows) for rows in many)
            self.assertEqual(ways(house), mixtures)
            self.assertEqual(orders(house), (((), mixtures),))
            self.assertIsNone(greatest(house, "a"))

    def test_many_figures(self):
        house = says(19, 9, 9)
        self.assertEqual(ways(house), math.factorial(37) // math.factorial(19) // math.factorial(9) ** 2)

    def test_from_an_end_itself(self):
        for house in (house_of(PLAN), house_of(PLAN, rest=(TAKE,))):
            if stuck(house) is None:
                run(house, "cy ann ann bob bob")
            self.assertIsNotNone(stuck(house))
            before = picture(house)
            self.assertEqual(ways(house), 1)
            self.assertEqual(orders(house), (((), 1),))
            for name in hands_of(PLAN):
                self.assertIsNone(greatest(house, name))
            self.assertEqual(ways(house, most=1), 1)
            self.assertEqual(picture(house), before)

    def test_kinds(self):
        house = house_of(PLAN, rest=ONCE)
        self.assertIs(type(ways(house)), int)
        told = orders(house)
        self.assertIs(type(told), tuple)
        self.assertEqual([(type(row), type(row[0]), type(row[1])) for row in told], [(tuple, tuple, int)] * len(told))
        self.assertIs(type(greatest(house, "ann")), int)

    def test_orders_by_hand(self):
        house = house_of(("all", 1, ("a", "b")), {"a": ONCE, "b": ONCE})
        told = orders(house)
        self.assertEqual([came for came, many in told], [("a", "b"), ("b", "a")])
        # a takes and lets go; b's take stands among them at three places, and ties where it is ahead of the let.
        self.assertEqual(told, ((("a", "b"), 2), (("b", "a"), 2)))
        self.assertEqual(ways(house), 4)

    def test_orders_are_rising_and_each_once(self):
        house = house_of(PLAN, {"bob": (("take", 0), LET)}, rest=ONCE)
        told = orders(house)
        self.assertEqual(list(told), sorted(told))
        self.assertEqual(len({came for came, many in told}), len(told))
        self.assertGreater(len(told), 6)
        self.assertEqual(sum(many for came, many in told), ways(house))

    def test_all_ways_end_as_told(self):
        for house in list(drawn_houses())[:60]:
            known = dict(ends(house))
            self.assertGreater(len(known), 0)
            chance = random.Random(3)
            for _ in range(5):
                other = house.twin()
                while stuck(other) is None:
                    other.step(chance.choice(hands_of(house.plan)))
                self.assertEqual(known[str(other)], stuck(other))


class GreatestTests(unittest.TestCase):
    def asked(self, house, name, told):
        before = picture(house)
        self.assertEqual(greatest(house, name), told)
        self.assertEqual(picture(house), before)

    def test_takes_in_none(self):
        house = house_of(PLAN, {"ann": (LET, ("say", 1)), "bob": (("try",),)}, rest=ONCE)
        self.asked(house, "ann", None)
        self.asked(house, "bob", None)

    def test_a_taking_by_which_it_comes(self):
        self.asked(house_of(PLAN, {"ann": ONCE}), "ann", None)
        self.asked(house_of(PLAN, {"ann": ONCE + ONCE}), "ann", None)

    def test_a_taking_ahead_of_now(self):
        # It stands by now: that taking is in no way from here.
        house = house_of(("all", 1, ("a", "b")), {"a": ONCE, "b": ONCE})
        run(house, "a b")
        self.asked(house, "b", None)
        house = house_of(("all", 1, ("a", "b")), {"a": ONCE + ONCE, "b": ONCE + ONCE})
        run(house, "a b")
        self.asked(house, "b", 0)

    def test_it_stands_in_a_row(self):
        house = house_of(("all", 1, tuple("abcd")), rest=ONCE)
        self.asked(house, "a", 2)
        house = house_of(("all", 1, ("a", "b")), {"a": ONCE, "b": ONCE})
        self.asked(house, "a", 0)

    def test_it_holds_a_group(self):
        house = house_of(("all", 1, (("g", 1, ("a",)), "b", "c")), rest=ONCE)
        self.asked(house, "a", 1)
        house = house_of(("all", 1, (("g", 1, ("a",)), ("k", 2, ("b", "c")))), rest=ONCE)
        self.asked(house, "a", 1)

    def test_near_ones_come_ahead(self):
        house = house_of(("all", 1, (("g", 3, ("b", "c")), "a")), {"b": ONCE + ONCE, "c": ONCE}, rest=ONCE)
        # b is within, a stands; c and b come near.
        self.asked(house, "a", 2)
        house = house_of(("all", 1, (("g", 2, ("b", "c")), "a")), {"b": ONCE + ONCE, "c": ONCE}, rest=ONCE)
        self.asked(house, "a", 1)

    def test_up_to_its_leaving(self):
        # Behind its leaving others come, but they count no more.
        house = house_of(("all", 1, ("a", "b", "c")), {"a": (("take", 0),), "b": ONCE, "c": ONCE})
        self.asked(house, "a", 1)
        house = house_of(("all", 1, ("a", "b")), {"a": (("take", 0),), "b": ONCE * 3})
        self.asked(house, "a", 0)

    def test_up_to_the_end(self):
        # c ends within: all that stand wait for ever.
        house = house_of(("all", 1, ("a", "b", "c")), {"a": (TAKE,), "b": ONCE, "c": (TAKE,)})
        self.asked(house, "a", 1)
        run(house, "c")
        self.asked(house, "a", 0)

    def test_the_greatest_of_several_takings(self):
        house = house_of(("all", 1, ("a", "b", "c")), {"a": ONCE + ONCE, "b": ONCE, "c": ONCE})
        self.asked(house, "a", 1)

    def test_no_name_first(self):
        for house in (house_of(PLAN, rest=ONCE), house_of(PLAN, rest=LOOP), says(2, 2)):
            before = picture(house)
            for name in list(groups_of(house.plan)) + rooms.no_names():
                rooms.named(self, greatest, house, name)
                with self.assertRaises(rooms.NoName) as caught:
                    greatest(house, name, most=0)
                self.assertIs(caught.exception.name, name)
            self.assertEqual(picture(house), before)


class RefusedTests(unittest.TestCase):
    def calls(self, house):
        first = hands_of(house.plan)[0]
        return (ways, orders, lambda one, **more: greatest(one, first, **more))

    def refused(self, known, house, **more):
        before = picture(house)
        for call in self.calls(house):
            with self.assertRaises(known) as caught:
                call(house, **more)
            self.assertIs(type(caught.exception), known)
        self.assertEqual(picture(house), before)

    def told(self, house, **more):
        for call in self.calls(house):
            call(house, **more)

    def test_too_many(self):
        for house in (house_of(PLAN), says(1), says(2, 3), house_of(("all", 1, ("a", "b")), rest=ONCE)):
            many = len(reached(house))
            self.told(house, most=many)
            self.told(house, most=many + 1)
            for most in (0, many - 1):
                self.refused(TooMany, house, most=most)

    def test_most_left_out(self):
        self.assertEqual(MOST, 2000)
        self.told(says(19, 9, 9))
        self.refused(TooMany, says(2, 22, 28))
        self.told(says(2, 22, 28), most=2001)

    def test_endless(self):
        for rows in (LOOP, (("goto", 0),), (("if", 0, 0),), (("say", 1), ("goto", 0)), (("say", 1), ("goto", 1)),
                     (("try",), LET, ("if", 0, 0)), (("say", 3), ("say", 4), ("say", 5), ("goto", 1))):
            house = house_of(("all", 1, ("a", "b")), {"a": rows, "b": (("say", 2), ("say", 3))})
            self.refused(Endless, house)
            self.refused(Endless, house, most=len(reached(house)))

    def test_endless_far_off(self):
        # The way back is behind a coming of b ahead of a.
        house = house_of(("all", 1, ("a", "b")), {"a": (TAKE, LET, TAKE, ("goto", 3)), "b": ONCE})
        self.refused(Endless, house)
        # Where a is refused its try, it never comes to the row back.
        rows = (("try",), ("if", 0, 3), ("goto", 1), ("say", 1))
        house = house_of(("all", 1, ("a", "b")), {"a": rows, "b": (TAKE,)})
        self.refused(Endless, house)
        run(house, "b")
        self.told(house)

    def test_too_many_ahead_of_endless(self):
        house = house_of(("all", 1, ("a", "b")), {"a": (("goto", 0),), "b": (("say", 2), ("say", 3))})
        self.assertEqual(len(reached(house)), 3)
        for most in (0, 1, 2):
            self.refused(TooMany, house, most=most)
        self.refused(Endless, house, most=3)
        self.refused(TooMany, house_of(PLAN, {"ann": (TAKE,), "bob": GIVES_UP}), most=50)

    def test_an_idle_step_is_no_leading_back(self):
        house = house_of(("all", 1, ("a", "b")), {"a": (TAKE,), "b": (TAKE,)})
        run(house, "a b")
        self.assertEqual(ways(house), 1)
        self.assertEqual(orders(house), (((), 1),))

    def test_most_is_told_by_its_name_alone(self):
        house = house_of(PLAN)
        for call, more in ((ways, ()), (orders, ()), (greatest, ("ann",))):
            with self.assertRaises(TypeError):
                call(house, *more, 10)


if __name__ == "__main__":
    unittest.main()
