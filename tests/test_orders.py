"""The order in which those that stand come within."""

import itertools
import random
import unittest

import model
import rooms
import things
from nearlocks.errors import NoBounds
from nearlocks.houses import House
from nearlocks.orders import order, order_by
from nearlocks.plans import groups_of, hands_of, path_of
from nearlocks.scripts import walk
from rooms import LET, LOOP, TAKE, house_of, picture, run, tie_all

PLAN = ("all", 1, (("left", 2, ("ann", "bob", ("deep", 1, ("cy", "dee")))), "eve", ("right", 3, ("flo",))))


def with_bounds(thing, known):
    """The same plan with other bounds, by a dict of them."""
    if isinstance(thing, str):
        return thing
    return (thing[0], known[thing[0]], tuple(with_bounds(member, known) for member in thing[2]))


def bounds_of(plan):
    known = model.bounds(plan)
    return tuple(known[name] for name in groups_of(plan))


def standing_house(plan, seed, many):
    """A house in which so many took, some gave up, and some let go; with each one's script."""
    chance = random.Random(seed)
    house = House(plan, tuple((name, (("take", chance.choice([None, None, 0, 1])), LET, ("goto", 0)))
                              for name in sorted(hands_of(plan))))
    script = []
    for _ in range(many):
        name = chance.choice(hands_of(plan))
        # Most of those within stay so: rows grow long that way.
        if house.within() != name or chance.randrange(3) == 0:
            house.step(name)
            script.append(name)
    return house, script


def by_steps(house):
    """Who comes where all loose ones are tied and each that comes lets go at once, on a twin."""
    other = house.twin()
    tie_all(other)
    came = []
    while other.within() is not None:
        came += [event[1] for event in other.step(other.within()) if event[0] == "came"]
    return tuple(came)


class OrderTests(unittest.TestCase):
    def test_nobody_within(self):
        house = house_of(PLAN, rest=LOOP)
        self.assertEqual(order(house), ())
        self.assertEqual(order_by(house, (1, 1, 1, 1)), ())
        run(house, "ann ann")
        self.assertEqual(order(house), ())

    def test_one_within_alone(self):
        for name in hands_of(PLAN):
            house = house_of(PLAN, rest=LOOP)
            house.step(name)
            self.assertEqual(order(house), ())

    def test_by_hand(self):
        house = house_of(PLAN, rest=LOOP)
        run(house, "ann cy eve bob flo dee")
        # left's row is deep, bob; all's is eve, right. cy comes near; then both bounds are met, and bob and dee
        # come behind eve and flo.
        self.assertEqual(order(house), ("cy", "eve", "flo", "bob", "dee"))
        self.assertEqual(order_by(house, (1, 1, 1, 1)), ("eve", "flo", "cy", "bob", "dee"))
        self.assertEqual(order_by(house, (1, 9, 9, 1)), ("cy", "dee", "bob", "eve", "flo"))
        self.assertEqual(order_by(house, (1, 9, 1, 1)), ("cy", "bob", "dee", "eve", "flo"))

    def test_the_wholes_bound_counts_for_nothing(self):
        house = house_of(PLAN, rest=LOOP)
        run(house, "ann cy eve bob flo dee")
        for bound in (1, 2, 3, 999999999):
            self.assertEqual(order_by(house, (bound, 2, 1, 3)), order(house))

    def test_one_that_ended_within(self):
        # Its program has no let; the order asks what comes where it lets go.
        house = house_of(PLAN, rest=(TAKE,))
        run(house, "ann bob eve")
        self.assertEqual(order(house), ("bob", "eve"))

    def test_left_ones_do_not_come(self):
        house = house_of(PLAN, {"bob": (("take", 0), ("take", 0)), "flo": (("take", 0),)}, rest=LOOP)
        run(house, "ann bob bob bob flo flo eve cy")
        self.assertEqual(house.group("left")[2], (("bob", False), ("deep", True)))
        self.assertEqual(order(house), ("cy", "eve"))
        run(house, "bob")
        self.assertEqual(order(house), ("cy", "eve", "bob"))

    def test_the_count_so_far_is_kept(self):
        house = house_of(("all", 1, (("g", 3, tuple("abcdef")), "z")), rest=LOOP)
        run(house, "a b b a c d e f z")
        self.assertEqual(house.group("g")[:2], ("b", 2))
        self.assertEqual(order(house), ("c", "z", "d", "e", "f"))
        # Two came by now: a bound of 1 or 2 is met.
        self.assertEqual(order_by(house, (1, 1)), ("z", "c", "d", "e", "f"))
        self.assertEqual(order_by(house, (1, 2)), ("z", "c", "d", "e", "f"))
        self.assertEqual(order_by(house, (1, 4)), ("c", "d", "z", "e", "f"))
        self.assertEqual(order_by(house, (1, 999999999)), ("c", "d", "e", "f", "z"))

    def houses(self):
        for seed in range(60):
            yield standing_house(model.small(seed), seed, 80)
        for seed, plan in enumerate(things.plans()):
            yield standing_house(plan, seed, 150)

    def test_as_by_steps(self):
        longest = 0
        for house, script in self.houses():
            before = picture(house)
            told = order(house)
            self.assertIs(type(told), tuple)
            self.assertEqual(told, by_steps(house))
            self.assertEqual(picture(house), before)
            longest = max(longest, len(told))
        self.assertGreater(longest, 20)

    def test_all_that_stand_without_the_one_within(self):
        for house, script in self.houses():
            stand = sorted(name for name in hands_of(house.plan) if house.hand(name)[2] in ("loose", "waits"))
            self.assertEqual(sorted(order(house)), stand if house.within() else [])

    def test_its_own_bounds(self):
        for house, script in self.houses():
            self.assertEqual(order_by(house, bounds_of(house.plan)), order(house))

    def test_other_bounds_change_the_order_alone(self):
        unlike = 0
        for seed, (house, script) in enumerate(self.houses()):
            chance = random.Random(seed)
            before = picture(house)
            for _ in range(4):
                bounds = tuple(chance.choice([1, 2, 3, 7, 999999999]) for name in groups_of(house.plan))
                told = order_by(house, bounds)
                self.assertEqual(picture(house), before)
                self.assertEqual(sorted(told), sorted(order(house)))
                self.rows_kept(house, told)
                unlike += told != order(house)
        self.assertGreater(unlike, 20)

    def rows_kept(self, house, told):
        """Each group's holder and those that stand in its row come in this order, by the first of theirs that comes."""
        for name in groups_of(house.plan) if told else ():
            holder, count, places = house.group(name)
            row = [member for member, standing in places if standing]
            if holder is not None and name not in path_of(house.plan, house.within()):
                row = [holder] + row
            firsts = [min(told.index(one) for one in told if one == member or member in path_of(house.plan, one))
                      for member in row if member not in path_of(house.plan, house.within())]
            self.assertEqual(firsts, sorted(firsts))

    def test_other_bounds_as_a_house_of_these_bounds(self):
        # Where nobody has let go so far, bounds have not mattered yet: the same script leads to the same places.
        for seed in range(60):
            plan = model.small(seed)
            chance = random.Random(seed)
            hands = list(hands_of(plan))
            chance.shuffle(hands)
            known = {name: chance.choice([1, 2, 3, 999999999]) for name in groups_of(plan)}
            house = house_of(plan, rest=LOOP)
            walk(house, tuple(hands))
            other = house_of(with_bounds(plan, known), rest=LOOP)
            walk(other, tuple(hands))
            told = order_by(house, tuple(known[name] for name in groups_of(plan)))
            self.assertEqual(told, order(other))
            self.assertEqual(told, by_steps(other))


class BoundsTests(unittest.TestCase):
    def asked(self, house, thing):
        before, pictured = picture(house), things.picture(thing)
        rooms.refused(self, NoBounds, order_by, house, thing)
        self.assertEqual(picture(house), before)
        self.assertEqual(things.picture(thing), pictured)

    def houses(self):
        empty, full = house_of(PLAN, rest=LOOP), house_of(PLAN, rest=LOOP)
        run(full, "ann cy eve bob flo dee")
        return empty, full

    def test_fewer_and_more(self):
        for house in self.houses():
            for many in (0, 1, 2, 3, 5, 6, 40):
                self.asked(house, (1,) * many)
            self.assertIsInstance(order_by(house, (1,) * 4), tuple)

    def test_no_bounds(self):
        for house in self.houses():
            for at, bad in itertools.product(range(4), (
                    0, -1, -999999999, True, False, None, "", "1", b"1", (), (1,), [1], {1: 1}, things.Same())):
                self.asked(house, (2,) * at + (bad,) + (2,) * (3 - at))

    def test_no_tuple(self):
        for house in self.houses():
            for thing in ([1, 1, 1, 1], {0: 1, 1: 1, 2: 1, 3: 1}, "1111", b"aaaa", 1, None, {1, 2, 3, 4}, range(1, 5),
                          PLAN, house.book, groups_of(PLAN)):
                self.asked(house, thing)

    def test_anything(self):
        for house in self.houses():
            for thing in things.anything():
                self.asked(house, thing)
                self.asked(house, (thing, thing, thing, thing) if not fits(thing) else thing)

    def test_the_whole_is_asked_too(self):
        house = house_of(("all", 1, ("ann",)), rest=LOOP)
        self.asked(house, ())
        self.asked(house, (0,))
        self.assertEqual(order_by(house, (1,)), ())


def fits(thing):
    return type(thing) is int and thing > 0


if __name__ == "__main__":
    unittest.main()
