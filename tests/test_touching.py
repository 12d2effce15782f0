"""Which cells a step touches, which steps meet, and that such as don't can be exchanged."""

import random
import unittest

import model
import rooms
from nearlocks.houses import House
from nearlocks.plans import groups_of, hands_of, path_of
from nearlocks.touching import meet, touched
from rooms import LET, LOOP, TAKE, house_of, picture, run

PLAN = ("all", 1, (("left", 2, ("ann", "bob", ("deep", 1, ("cy", "dee")))), "eve", ("right", 3, ("flo", "gus"))))
# Rows long enough that several give up without meeting.
WIDE = ("all", 1, (("g", 2, tuple("abcd")), ("k", 2, ("e", "f", ("l", 1, tuple("hij")))), "m"))


def cells(words):
    """The tuple of (cell, mode) written as one text: `w own ann, r row all`."""
    found = []
    for part in words.split(", "):
        mode, kind, name = part.split(" ")
        found.append(((kind, name), {"w": "write", "r": "read"}[mode]))
    return tuple(found)


def walks():
    """(plan, book, script): first such in which all take, give up soon and let go, then those of all kinds of rows."""
    for seed in range(60):
        chance = random.Random(seed)
        plan = model.small(seed) if seed % 3 else WIDE
        hands = hands_of(plan)
        yield (plan, tuple((name, (("take", chance.choice([0, 0, 1, None])), LET, ("goto", 0)))
                           for name in sorted(hands)), tuple(chance.choice(hands) for _ in range(300)))
    yield from model.cases()


class TouchedTests(unittest.TestCase):
    def asked(self, house, name, words):
        before = picture(house)
        self.assertEqual(touched(house, name), cells(words))
        self.assertEqual(picture(house), before)

    def test_rows_out_that_mind_no_group(self):
        for row in (("say", 3), ("goto", 0), ("if", 0, 0), ("if", 5, 0), LET):
            self.asked(house_of(PLAN, {"cy": (row,)}), "cy", "w own cy")

    def test_rows_within_that_mind_no_group(self):
        for row in (("say", 3), ("goto", 0), ("if", 1, 0), ("if", 5, 0), TAKE, ("take", 2), ("try",)):
            house = house_of(PLAN, {"cy": (TAKE, row)}, rest=LOOP)
            run(house, "cy dee eve")
            self.asked(house, "cy", "w own cy")

    def test_ended(self):
        house = house_of(PLAN, {"cy": (TAKE,)})
        self.asked(house, "ann", "w own ann")
        run(house, "cy")
        self.asked(house, "cy", "w own cy")

    def test_take_by_which_one_comes(self):
        for row in (TAKE, ("take", 0), ("take", 4), ("try",)):
            house = house_of(PLAN, rest=(row,))
            self.asked(house, "cy", "w own cy, w row all, w row deep, w row left")
            self.asked(house, "eve", "w own eve, w row all")

    def test_take_by_which_one_stands_or_holds(self):
        for row in (TAKE, ("take", 0), ("take", 4)):
            house = house_of(PLAN, {"bob": LOOP, "flo": LOOP}, rest=(row,))
            run(house, "bob")
            self.asked(house, "ann", "w own ann, r row all, w row left")
            self.asked(house, "cy", "w own cy, r row all, w row deep, w row left")
            self.asked(house, "eve", "w own eve, w row all")
            self.asked(house, "gus", "w own gus, w row all, w row right")
            run(house, "flo")
            self.asked(house, "gus", "w own gus, r row all, w row right")

    def test_a_try_that_finds_a_holder(self):
        house = house_of(PLAN, {"bob": LOOP}, rest=(("try",),))
        run(house, "bob")
        self.asked(house, "cy", "w own cy, r row all, r row deep, r row left")
        self.asked(house, "eve", "w own eve, r row all")

    def test_tying_and_looks(self):
        house = house_of(PLAN, {"ann": (("take", 1),), "bob": LOOP, "eve": LOOP})
        run(house, "bob ann eve")
        self.asked(house, "ann", "w own ann")
        run(house, "ann eve")
        self.asked(house, "ann", "w own ann")
        self.asked(house, "eve", "w own eve")
        run(house, "ann")
        self.asked(house, "ann", "w own ann, r row all, w row left")

    def test_leaving_a_place(self):
        # None of the rows is handed on: no other hand is minded, be it first or behind.
        house = house_of(PLAN, {"ann": (("take", 0),)}, rest=LOOP)
        run(house, "bob ann ann cy eve")
        self.asked(house, "ann", "w own ann, r row all, w row left")

    def test_a_holder_leaves(self):
        house = house_of(PLAN, {"flo": (("take", 0),)}, rest=LOOP)
        run(house, "eve flo")
        self.asked(house, "flo", "w own flo, w row all, w row right")
        run(house, "gus")
        # gus is loose: the step idles, but minds it.
        self.asked(house, "flo", "w own flo, r own gus, r row all, r row right")
        run(house, "gus")
        self.asked(house, "flo", "w own flo, r own gus, r row all, w row right")

    def test_a_holder_leaves_groups_in_groups(self):
        plan = ("all", 1, ("z", ("f", 1, (("g", 1, (("k", 1, ("a", "b")), "c")), "d"))))
        house = house_of(plan, {"a": (("take", 0),)}, rest=LOOP)
        run(house, "z a")
        self.asked(house, "a", "w own a, w row all, w row f, w row g, w row k")
        run(house, "d")
        # d is loose, and first in f, which a's leaving comes to.
        self.asked(house, "a", "w own a, r own d, r row all, r row f, r row g, r row k")
        run(house, "d")
        self.asked(house, "a", "w own a, r own d, r row all, w row f, w row g, w row k")
        run(house, "c")
        # c is nearer, and loose: d is beyond it.
        self.asked(house, "a", "w own a, r own c, r row all, r row f, r row g, r row k")
        run(house, "c")
        self.asked(house, "a", "w own a, r own c, r row all, r row f, w row g, w row k")

    def test_let_near(self):
        house = house_of(PLAN, rest=LOOP)
        run(house, "ann")
        self.asked(house, "ann", "w own ann, w row all, w row left")
        run(house, "bob eve")
        self.asked(house, "ann", "w own ann, r own bob, r row all, r row left")
        run(house, "bob")
        self.asked(house, "ann", "w own ann, w own bob, r row all, w row left")

    def test_let_to_a_group(self):
        # The counts of groups that have the lock by this are theirs, beyond the path of who lets go.
        house = house_of(PLAN, rest=LOOP)
        run(house, "eve cy dee")
        self.asked(house, "eve", "w own cy, w own eve, w row all, w row deep, w row left")

    def test_let_over(self):
        house = house_of(PLAN, rest=LOOP)
        run(house, "cy dee eve")
        # dee is first in deep, loose; eve, first in all, is beyond it.
        self.asked(house, "cy", "w own cy, r own dee, r row all, r row deep, r row left")
        run(house, "dee")
        # deep goes behind dee as its holder to left, whose count is below its bound: near to deep itself.
        self.asked(house, "cy", "w own cy, w own dee, r row all, w row deep, w row left")
        run(house, "cy cy cy")
        self.assertEqual(house.within(), "dee")
        # cy is loose and first in deep.
        self.asked(house, "dee", "r own cy, w own dee, r row all, r row deep, r row left")
        run(house, "cy")
        # Both bounds are met: cy holds deep, deep holds left, eve is first in all, and loose.
        self.asked(house, "dee", "r own cy, w own dee, r own eve, r row all, r row deep, r row left")
        run(house, "eve")
        self.asked(house, "dee", "r own cy, w own dee, w own eve, w row all, w row deep, w row left")

    def test_a_group_that_is_the_same_behind_it_is_read(self):
        # The whole hands near to the group that was its holder: it is as it was.
        house = house_of(("all", 1, (("g", 1, ("a", "b")),)), rest=LOOP)
        run(house, "a b b")
        self.asked(house, "a", "w own a, w own b, r row all, w row g")

    def test_left_places_aside(self):
        house = house_of(PLAN, {"bob": (("take", 0),), "eve": (("take", 0),)}, rest=LOOP)
        run(house, "ann bob bob bob cy eve eve eve flo")
        self.assertEqual(house.group("left")[2], (("bob", False), ("deep", True)))
        # A group is first there, left ones aside: no hand is minded but the one that comes.
        self.asked(house, "ann", "w own ann, w own cy, r row all, w row deep, w row left")
        house = house_of(PLAN, {"bob": (("take", 0),), "eve": (("take", 0),)}, rest=LOOP)
        run(house, "dee cy cy bob bob bob ann eve eve eve gus")
        self.asked(house, "dee", "r own ann, r own cy, w own dee, r row all, r row deep, r row left")
        run(house, "ann")
        self.asked(house, "dee", "w own ann, r own cy, w own dee, r row all, w row deep, w row left")

    def test_each_step_of_drawn_walks(self):
        kinds = {}
        for plan, book, script in walks():
            house, other = House(plan, book), model.Model(plan, book)
            for at, name in enumerate(script[:250]):
                asked = name if at % 2 else script[at - 1]
                told = touched(house, asked)
                self.assertEqual(told, expected(house, other, asked))
                for cell, mode in told:
                    key = (cell[0] == "row", cell == ("own", asked), mode, other.why(asked) == "ties")
                    kinds[key] = kinds.get(key, 0) + 1
                house.step(name)
                other.step(name)
        for key in ((True, False, "read", False), (True, False, "write", False), (True, False, "read", True),
                    (False, False, "read", False), (False, False, "write", False), (False, False, "read", True)):
            self.assertGreater(kinds[key], 100, key)
        self.assertNotIn((True, False, "write", True), kinds)

    def test_no_name(self):
        house = house_of(PLAN, rest=LOOP)
        run(house, "ann bob")
        before = picture(house)
        for name in list(groups_of(PLAN)) + rooms.no_names():
            if not isinstance(name, str) or name != "ann":
                rooms.named(self, touched, house, name)
        self.assertEqual(picture(house), before)


def expected(house, other, name):
    """The cells of a step, by a twin that does it and a look along the rows of the other telling."""
    behind = house.twin()
    behind.step(name)
    modes = {}
    hand = other.hands[name]
    row = hand.program[hand.row][0] if hand.row < len(hand.program) else None
    leaves = hand.how == "waits" and hand.looks == 0
    lets = hand.how == "within" and row == "let"
    if leaves or lets or hand.how == "out" and row in ("take", "try"):
        modes = {("row", group): "read" for group in path_of(house.plan, name)}
    firsts = other.firsts_of_leaving(hand) if leaves else other.firsts_of_letting(hand) if lets else []
    for first in firsts:
        if isinstance(first, model.Hand):
            modes[("own", first.name)] = "read"
            if first.how == "loose":
                break
    modes[("own", name)] = "write"
    modes.update({("own", one): "write" for one in hands_of(house.plan) if house.hand(one) != behind.hand(one)})
    modes.update({("row", one): "write" for one in groups_of(house.plan) if house.group(one) != behind.group(one)})
    return tuple(sorted(modes.items()))


class MeetTests(unittest.TestCase):
    def asked(self, house, one, other, told):
        before = picture(house)
        self.assertIs(meet(house, one, other), told)
        self.assertIs(meet(house, other, one), told)
        self.assertEqual(picture(house), before)

    def test_of_one_hand_and_itself(self):
        for row in (TAKE, ("try",), LET, ("say", 1), ("goto", 0)):
            self.asked(house_of(PLAN, rest=(row,)), "ann", "ann", True)
        self.asked(house_of(PLAN), "ann", "ann", True)

    def test_of_unlike_hands(self):
        house = house_of(PLAN, {"ann": (("say", 1),), "flo": (("try",),), "eve": (("try",),)}, rest=LOOP)
        self.asked(house, "ann", "bob", False)
        self.asked(house, "bob", "cy", True)
        self.asked(house, "bob", "gus", True)
        self.asked(house, "flo", "eve", True)
        run(house, "cy")
        # Both tries read the whole's row, neither writes it.
        self.asked(house, "flo", "eve", False)
        # bob stands in left, gus holds right and stands in all, which bob reads.
        self.asked(house, "bob", "gus", True)
        run(house, "gus")
        self.asked(house, "bob", "eve", False)
        # dee stands in deep, and reads left's row.
        self.asked(house, "bob", "dee", True)

    def test_a_tie_and_a_let(self):
        house = house_of(PLAN, rest=LOOP)
        run(house, "ann bob eve flo")
        # bob is first, and loose: the let idles by it. eve is beyond bob.
        self.asked(house, "ann", "bob", True)
        self.asked(house, "ann", "eve", False)
        self.asked(house, "bob", "eve", False)

    def test_as_touched_tells(self):
        found = {True: 0, False: 0}
        for plan, book, script in list(model.cases())[::3]:
            house, chance = House(plan, book), random.Random(1)
            for name in script[:120]:
                one, other = chance.choice(hands_of(plan)), chance.choice(hands_of(plan))
                writes = [{cell for cell, mode in touched(house, hand) if mode == "write"} for hand in (one, other)]
                both = {cell for cell, mode in touched(house, one)} & {cell for cell, mode in touched(house, other)}
                self.asked(house, one, other, bool(both & (writes[0] | writes[1])))
                found[meet(house, one, other)] += 1
                house.step(name)
        self.assertGreater(min(found.values()), 1000)

    def test_no_name(self):
        house = house_of(PLAN, rest=LOOP)
        run(house, "ann bob")
        before = picture(house)
        for name in list(groups_of(PLAN)) + rooms.no_names():
            rooms.named(self, meet, house, "ann", name)
            for other in ("ann", "nobody", "all", None, ["x"]):
                self.assertIs(rooms.refused(self, rooms.NoName, meet, house, name, other).name, name)
        self.assertEqual(picture(house), before)


class ExchangeTests(unittest.TestCase):
    def look(self, house, one, other):
        """Whether the two don't meet; where so, that they can be exchanged."""
        if meet(house, one, other):
            return False
        first, second = house.twin(), house.twin()
        ones = first.step(one)
        others = first.step(other)
        self.assertEqual(second.step(other), others)
        self.assertEqual(second.step(one), ones)
        self.assertEqual(first, second)
        self.assertEqual(str(first), str(second))
        return True

    def minds(self, house, name):
        return len(touched(house, name)) > 1

    def test_steps_that_do_not_meet(self):
        many, minding = 0, {}
        for plan, book, script in list(walks())[:180]:
            house, hands = House(plan, book), hands_of(plan)
            for at, name in enumerate(script[:120]):
                for one in hands if at % 3 == 0 else ():
                    for other in hands[:hands.index(one)]:
                        if self.look(house, one, other):
                            many += 1
                            if self.minds(house, one) and self.minds(house, other):
                                key = tuple(sorted((house.hand(one)[2], house.hand(other)[2])))
                                minding[key] = minding.get(key, 0) + 1
                house.step(name)
        self.assertGreater(many, 20000)
        for key in (("out", "out"), ("out", "waits"), ("waits", "within"), ("waits", "waits"), ("out", "within")):
            self.assertGreater(minding.get(key, 0), 20, key)

    def test_in_great_plans(self):
        many = 0
        for plan, book, script in list(walks())[180:]:
            house, hands, chance = House(plan, book), hands_of(plan), random.Random(2)
            for name in script[:150]:
                many += self.look(house, chance.choice(hands), chance.choice(hands))
                house.step(name)
        self.assertGreater(many, 2000)


if __name__ == "__main__":
    unittest.main()
