"""Scripts: walk, why, stuck."""

import unittest

import model
import rooms
import things
from nearlocks.errors import NoName, NoScript
from nearlocks.houses import House
from nearlocks.plans import groups_of
from nearlocks.scripts import stuck, walk, why
from rooms import LET, LOOP, TAKE, house_of, picture, run

PLAN = ("all", 1, (("left", 2, ("cy", "ann")), "bob"))


class WalkTests(unittest.TestCase):
    def test_none(self):
        house = house_of(PLAN, rest=LOOP)
        before = picture(house)
        self.assertEqual(walk(house, ()), ())
        self.assertEqual(picture(house), before)

    def test_events_of_each_entry(self):
        house = house_of(PLAN, {"cy": (("say", 5),)}, rest=LOOP)
        self.assertEqual(walk(house, ("ann", "bob", "cy", "cy", "ann", "bob", "ann", "ann")), (
            (("held", "ann", "left"), ("held", "left", "all"), ("came", "ann")),
            (("stood", "bob", "all"),),
            (("said", "cy", 5),),
            (("idle", "cy", "ended"),),
            (("idle", "ann", "ties"),),
            (("tied", "bob"),),
            (("let", "ann"), ("bare", "left"), ("handed", "bob", "all", "near"), ("came", "bob")),
            (("went", "ann", 0),)))
        self.assertEqual(house.within(), "bob")

    def test_as_steps_one_by_one(self):
        for plan, book, script in list(model.cases())[::4]:
            one, other = House(plan, book), House(plan, book)
            before = things.twin(script)
            events = walk(one, script)
            self.assertIs(type(events), tuple)
            self.assertEqual(events, tuple([other.step(name) for name in script]))
            self.assertEqual(one, other)
            self.assertEqual(script, before)

    def test_in_pieces(self):
        for plan, book, script in list(model.cases())[::9]:
            one, other = House(plan, book), House(plan, book)
            self.assertEqual(walk(one, script), walk(other, script[:50]) + walk(other, script[50:]))
            self.assertEqual(one, other)

    def test_no_script(self):
        house = house_of(PLAN, rest=LOOP)
        house.step("ann")
        before = picture(house)
        for thing in things.anything() + ["ann", "", ["ann"], {"ann": 1}, {"ann"}, b"ann", None, things.Same()]:
            if not isinstance(thing, tuple):
                pictured = things.picture(thing)
                rooms.refused(self, NoScript, walk, house, thing)
                self.assertEqual(things.picture(thing), pictured)
                self.assertEqual(picture(house), before)

    def test_a_refused_entry(self):
        steps = ("ann", "bob", "cy", "bob", "ann")
        bad = rooms.no_names() + list(groups_of(PLAN))
        for at in range(len(steps) + 1):
            expected = house_of(PLAN, rest=LOOP)
            for name in steps[:at]:
                expected.step(name)
            for name in bad:
                house = house_of(PLAN, rest=LOOP)
                refusal = rooms.refused(self, NoName, walk, house, steps[:at] + (name,) + steps[at:])
                self.assertIs(refusal.name, name)
                self.assertEqual(picture(house), picture(expected))

    def test_the_first_refused_entry_is_told(self):
        house = house_of(PLAN, rest=LOOP)
        self.assertEqual(rooms.refused(self, NoName, walk, house, ("ann", "left", "nobody")).name, "left")
        self.assertEqual(len(house), 1)

    def test_tuples_of_anything(self):
        for thing in things.anything():
            if isinstance(thing, tuple) and thing:
                house = house_of(PLAN, rest=LOOP)
                before = picture(house)
                rooms.refused(self, NoName, walk, house, thing)
                self.assertEqual(picture(house), before)


class WhyTests(unittest.TestCase):
    def asked(self, house, name, reason):
        before = picture(house)
        self.assertEqual(why(house, name), reason)
        self.assertEqual(picture(house), before)

    def test_each_reason(self):
        house = house_of(PLAN, {"cy": (("take", 1),)}, rest=(TAKE, LET))
        self.asked(house, "ann", None)
        run(house, "ann")
        self.asked(house, "ann", None)
        run(house, "bob")
        self.asked(house, "ann", "ties")
        self.asked(house, "bob", None)
        run(house, "bob")
        self.asked(house, "bob", "waits")
        self.asked(house, "ann", None)
        run(house, "cy")
        self.asked(house, "cy", None)
        self.asked(house, "ann", "ties")
        run(house, "cy")
        self.asked(house, "cy", None)
        run(house, "cy")
        self.asked(house, "cy", None)
        run(house, "cy")
        self.asked(house, "cy", "ended")
        run(house, "ann")
        self.asked(house, "ann", "ended")
        self.asked(house, "bob", None)

    def test_ended_within(self):
        house = house_of(PLAN, {"ann": (TAKE,)})
        house.step("ann")
        self.asked(house, "ann", "ended")

    def test_ties_of_one_that_leaves(self):
        house = house_of(PLAN, {"ann": (("take", 0),)}, rest=LOOP)
        run(house, "bob ann")
        self.asked(house, "ann", None)
        run(house, "cy")
        self.asked(house, "ann", "ties")
        run(house, "cy")
        self.asked(house, "ann", None)

    def test_rows_that_never_idle(self):
        for row in (TAKE, ("take", 0), ("try",), LET, ("say", 1), ("goto", 0), ("if", 0, 0), ("if", 1, 0)):
            self.asked(house_of(PLAN, {"ann": (row,)}), "ann", None)
            house = house_of(PLAN, {"ann": (TAKE, row)})
            house.step("ann")
            self.asked(house, "ann", None)

    def test_no_name(self):
        house = house_of(PLAN, rest=LOOP)
        run(house, "ann bob")
        before = picture(house)
        for name in rooms.no_names() + list(groups_of(PLAN)):
            rooms.named(self, why, house, name)
            self.assertEqual(picture(house), before)


class StuckTests(unittest.TestCase):
    def test_programs_of_none(self):
        house = house_of(PLAN)
        before = picture(house)
        self.assertEqual(stuck(house), (("cy", "ended"), ("ann", "ended"), ("bob", "ended")))
        self.assertEqual(picture(house), before)

    def test_one_that_can_step(self):
        for name in ("cy", "ann", "bob"):
            self.assertIsNone(stuck(house_of(PLAN, {name: (("goto", 0),)})))

    def test_all_wait_for_one_that_ended_within(self):
        house = house_of(PLAN, rest=(TAKE,))
        self.assertIsNone(stuck(house))
        run(house, "bob cy")
        self.assertIsNone(stuck(house))
        run(house, "ann")
        self.assertIsNone(stuck(house))
        run(house, "ann")
        before = picture(house)
        self.assertEqual(stuck(house), (("cy", "waits"), ("ann", "waits"), ("bob", "ended")))
        self.assertEqual(picture(house), before)

    def test_an_end_of_all(self):
        house = house_of(PLAN, rest=(TAKE, LET))
        run(house, "ann ann bob bob cy")
        self.assertIsNone(stuck(house))
        run(house, "cy")
        self.assertEqual(stuck(house), (("cy", "ended"), ("ann", "ended"), ("bob", "ended")))


if __name__ == "__main__":
    unittest.main()
