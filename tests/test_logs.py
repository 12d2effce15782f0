"""Logs: steps and walks as of a house, and steps that are taken back."""

import random
import unittest

import model
import rooms
import things
from nearlocks.errors import NoName, NoScript, NoStep
from nearlocks.houses import House
from nearlocks.logs import Log
from nearlocks.plans import groups_of, hands_of
from nearlocks.scripts import walk
from rooms import LOOP, TAKE, house_of, run

PLAN = ("all", 1, (("left", 2, ("cy", "ann")), "bob"))


def picture(log):
    """All that a log tells, to see afterwards that it stayed."""
    return (rooms.picture(log.house()), log.events(), log.entries(), len(log))


class StepTests(unittest.TestCase):
    def test_none(self):
        house = house_of(PLAN, rest=LOOP)
        run(house, "ann bob")
        log = Log(house)
        self.assertEqual(log.house(), house)
        self.assertEqual((log.events(), log.entries(), len(log)), ((), (), 0))

    def test_by_hand(self):
        log = Log(house_of(PLAN, {"cy": (("say", 5),)}, rest=LOOP))
        self.assertEqual(log.step("ann"), (("held", "ann", "left"), ("held", "left", "all"), ("came", "ann")))
        self.assertEqual(log.walk(("bob", "cy")), ((("stood", "bob", "all"),), (("said", "cy", 5),)))
        self.assertEqual(log.step("ann"), (("idle", "ann", "ties"),))
        self.assertEqual(log.entries(), ("ann", "bob", "cy", "ann"))
        self.assertEqual(log.events(), (
            (("held", "ann", "left"), ("held", "left", "all"), ("came", "ann")), (("stood", "bob", "all"),),
            (("said", "cy", 5),), (("idle", "ann", "ties"),)))
        self.assertEqual(len(log), 4)
        self.assertEqual(log.back(), (("idle", "ann", "ties"),))
        self.assertEqual(log.back(), (("said", "cy", 5),))
        self.assertEqual(log.house().hand("cy"), (0, 0, "out", None))
        self.assertEqual(log.entries(), ("ann", "bob"))
        self.assertEqual(log.step("cy"), (("said", "cy", 5),))
        self.assertEqual(log.entries(), ("ann", "bob", "cy"))

    def test_as_a_house_like_it(self):
        for seed, (plan, book, script) in enumerate(list(model.cases())[::4]):
            chance, house = random.Random(seed), House(plan, book)
            walk(house, script[:20])
            log, told = Log(house), []
            at = 20
            while at < len(script):
                piece = script[at:at + chance.randrange(5)]
                if len(piece) == 1 and chance.randrange(2):
                    told.append(house.step(piece[0]))
                    self.assertEqual(log.step(piece[0]), told[-1])
                else:
                    events = walk(house, piece)
                    answer = log.walk(piece)
                    self.assertEqual(answer, events)
                    self.assertIs(type(answer), tuple)
                    told.extend(events)
                at += len(piece)
                self.assertEqual(len(log), at - 20)
            self.assertEqual(log.house(), house)
            self.assertEqual(log.events(), tuple(told))
            self.assertEqual(log.entries(), script[20:])
            self.assertIs(type(log.events()), tuple)
            self.assertIs(type(log.entries()), tuple)

    def test_no_name(self):
        log = Log(house_of(PLAN, rest=LOOP))
        log.walk(("ann", "bob"))
        before = picture(log)
        for name in list(groups_of(PLAN)) + rooms.no_names():
            rooms.named(self, log.step, name)
        self.assertEqual(picture(log), before)


class BackTests(unittest.TestCase):
    def test_each_step_back(self):
        for plan, book, script in list(model.cases())[::5]:
            house = House(plan, book)
            log, houses = Log(house), [house.twin()]
            for name in script[:100]:
                house.step(name)
                houses.append(house.twin())
            events = log.walk(script[:100])
            while len(log):
                self.assertEqual(log.house(), houses.pop())
                self.assertEqual(log.events(), events)
                self.assertEqual(log.back(), events[-1])
                events = events[:-1]
                self.assertEqual(log.entries(), script[:len(events)])
            self.assertEqual(log.house(), houses.pop())

    def test_back_and_on(self):
        for seed, (plan, book, script) in enumerate(list(model.cases())[::7]):
            chance, log, kept = random.Random(seed), Log(House(plan, book)), []
            for name in script:
                if kept and chance.randrange(3) == 0:
                    kept.pop()
                    log.back()
                else:
                    kept.append(name)
                    log.step(name)
            house = House(plan, book)
            self.assertEqual(log.events(), walk(house, tuple(kept)))
            self.assertEqual(log.house(), house)
            self.assertEqual(log.entries(), tuple(kept))

    def test_no_step(self):
        log = Log(house_of(PLAN, rest=LOOP))
        before = picture(log)
        rooms.refused(self, NoStep, log.back)
        self.assertEqual(picture(log), before)
        log.step("ann")
        log.back()
        rooms.refused(self, NoStep, log.back)
        log.walk(())
        rooms.refused(self, NoStep, log.back)
        self.assertEqual(picture(log), before)

    def test_an_idle_step_is_a_step(self):
        log = Log(house_of(PLAN))
        log.step("ann")
        self.assertEqual(len(log), 1)
        self.assertEqual(log.back(), (("idle", "ann", "ended"),))
        self.assertEqual(len(log), 0)

    def test_some_two_thousand_steps(self):
        house = house_of(("all", 1, (("left", 2, ("cy", "ann")), "bob")), rest=LOOP)
        script = tuple(random.Random(7).choice(("ann", "bob", "cy")) for _ in range(2000))
        log = Log(house)
        events = log.walk(script)
        self.assertEqual(len(log), 2000)
        self.assertEqual(events, walk(house, script))
        self.assertEqual(log.house(), house)
        for told in reversed(events):
            self.assertEqual(log.back(), told)
        self.assertEqual(log, Log(house_of(PLAN, rest=LOOP)))


class WalkTests(unittest.TestCase):
    def log(self):
        log = Log(house_of(PLAN, rest=LOOP))
        log.walk(("ann", "bob"))
        return log

    def test_no_script(self):
        log = self.log()
        before = picture(log)
        for thing in things.anything() + ["ann", "", ["ann"], {"ann": 1}, {"ann"}, b"ann", None, things.Same()]:
            if not isinstance(thing, tuple):
                pictured = things.picture(thing)
                rooms.refused(self, NoScript, log.walk, thing)
                self.assertEqual(things.picture(thing), pictured)
        self.assertEqual(picture(log), before)

    def test_refused_in_its_midst(self):
        steps = ("bob", "ann", "cy", "bob")
        log = self.log()
        before = picture(log)
        for name in list(groups_of(PLAN)) + rooms.no_names():
            for at in range(len(steps) + 1):
                refusal = rooms.refused(self, NoName, log.walk, steps[:at] + (name,) + steps[at:])
                self.assertIs(refusal.name, name)
                self.assertEqual(len(log), 2)
            self.assertEqual(picture(log), before)
        log.walk(steps)
        self.assertEqual(log.entries(), ("ann", "bob") + steps)

    def test_the_first_refused_entry_is_told(self):
        log = self.log()
        self.assertEqual(rooms.refused(self, NoName, log.walk, ("ann", "left", "nobody")).name, "left")
        self.assertEqual(log, self.log())


class ApartTests(unittest.TestCase):
    def test_the_house_that_was_handed_in(self):
        house = house_of(PLAN, rest=LOOP)
        before = rooms.picture(house)
        log = Log(house)
        log.walk(("ann", "bob", "bob"))
        self.assertEqual(rooms.picture(house), before)
        log = Log(house)
        pictured = picture(log)
        run(house, "cy bob")
        self.assertEqual(picture(log), pictured)

    def test_the_houses_that_were_told(self):
        log = Log(house_of(PLAN, rest=LOOP))
        log.walk(("ann", "bob"))
        before = picture(log)
        told = log.house()
        self.assertIs(type(told), House)
        run(told, "bob ann cy")
        self.assertEqual(picture(log), before)
        told = log.house()
        pictured = rooms.picture(told)
        log.step("bob")
        log.back()
        log.back()
        self.assertEqual(rooms.picture(told), pictured)

    def test_two_logs_of_one_house(self):
        house = house_of(PLAN, rest=LOOP)
        one, other = Log(house), Log(house)
        one.step("ann")
        self.assertEqual((len(one), len(other)), (1, 0))
        self.assertEqual(other.house(), house)


class EqualTests(unittest.TestCase):
    def test_equal(self):
        for plan, book, script in list(model.cases())[::20]:
            one, other = Log(House(plan, book)), Log(House(plan, book))
            self.assertTrue(one == other)
            for name in script[:30]:
                one.step(name)
                self.assertTrue(one != other)
                self.assertFalse(one == other)
                other.step(name)
                self.assertTrue(one == other)
                self.assertFalse(one != other)

    def test_taken_back(self):
        one, other = Log(house_of(PLAN, rest=LOOP)), Log(house_of(PLAN, rest=LOOP))
        one.walk(("ann", "bob"))
        one.back()
        other.step("ann")
        self.assertTrue(one == other)

    def test_the_same_house_by_other_events(self):
        house = house_of(PLAN, {"ann": (("say", 1),), "bob": (("say", 2),)})
        one, other, third = Log(house), Log(house), Log(house)
        one.walk(("ann", "bob"))
        other.walk(("bob", "ann"))
        self.assertEqual(one.house(), other.house())
        self.assertFalse(one == other)
        third.walk(("ann", "bob", "ann"))
        self.assertEqual(one.house(), third.house())
        self.assertFalse(one == third)
        walk(house, ("ann", "bob"))
        self.assertEqual(one.house(), Log(house).house())
        self.assertFalse(one == Log(house))

    def test_the_same_events_in_other_houses(self):
        one = Log(house_of(PLAN, rest=(TAKE,)))
        other = Log(house_of(PLAN, rest=LOOP))
        one.step("ann")
        other.step("ann")
        self.assertEqual(one.events(), other.events())
        self.assertFalse(one == other)

    def test_to_nothing_of_another_kind(self):
        house = house_of(PLAN, rest=LOOP)
        log = Log(house)
        for thing in things.anything() + [house, (), "log", things.Stranger()]:
            self.assertFalse(log == thing)
            self.assertTrue(log != thing)
        self.assertFalse(house == log)
        self.assertEqual(hands_of(log.house().plan), hands_of(PLAN))


if __name__ == "__main__":
    unittest.main()
