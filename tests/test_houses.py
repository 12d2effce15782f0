"""Houses: what they refuse, how they begin, twins, what is equal, len and str."""

import unittest

import model
import rooms
import things
from nearlocks.errors import NoBook, NoPlan
from nearlocks.houses import House
from nearlocks.plans import groups_of, hands_of
from rooms import LET, LOOP, TAKE, house_of, picture, run

PLAN = ("all", 1, (("left", 2, ("cy", "ann")), "bob"))
BOOK = (("ann", LOOP), ("bob", ()), ("cy", (("try",),)))
BAD_PLANS = (None, (), "all", ("all", 1, ()), ("all", 0, ("a",)), ("all", True, ("a",)), ["all", 1, ("a",)],
             ("all", 1, ["a"]), ("all", 1, ("a", "a")), ("all", 1, ("all",)), ("All", 1, ("a",)))


class RefusedTests(unittest.TestCase):
    def test_no_plan(self):
        for thing in list(BAD_PLANS) + things.anything():
            before = things.picture(thing)
            rooms.refused(self, NoPlan, House, thing, ())
            rooms.refused(self, NoPlan, House, thing, BOOK)
            self.assertEqual(things.picture(thing), before)

    def test_no_plan_is_ahead_of_no_book(self):
        for thing in BAD_PLANS:
            for other in (None, [], True, 0, "", {}, ((),), thing):
                rooms.refused(self, NoPlan, House, thing, other)

    def test_no_book(self):
        for thing in things.anything() + [(), list(BOOK), dict(BOOK), BOOK[0], PLAN, things.Same()]:
            before = things.picture(thing)
            rooms.refused(self, NoBook, House, PLAN, thing)
            self.assertEqual(things.picture(thing), before)

    def test_a_book_of_another_plan(self):
        known = things.plans()
        for plan in known:
            for other in known:
                book = tuple((name, ()) for name in sorted(hands_of(other)))
                if sorted(hands_of(plan)) == sorted(hands_of(other)):
                    self.assertEqual(House(plan, book).book, book)
                else:
                    rooms.refused(self, NoBook, House, plan, book)

    def test_a_book_otherwise(self):
        more = [BOOK + (("dee", ()),), (("abe", ()),) + BOOK, BOOK + (("left", ()),), (("all", ()),) + BOOK]
        fewer = [BOOK[1:], BOOK[:-1], BOOK[:1] + BOOK[2:]]
        twice = [BOOK[:1] + BOOK, BOOK + BOOK[-1:], BOOK[:2] + BOOK[1:]]
        order = [BOOK[::-1], BOOK[1:] + BOOK[:1], (BOOK[1], BOOK[0], BOOK[2])]
        programs = [BOOK[:2] + (("cy", rows),) for rows in (None, [], (("take",),), (("goto", 1),), ("let",))]
        for book in more + fewer + twice + order + programs:
            rooms.refused(self, NoBook, House, PLAN, book)

    def asked(self, house, call, others):
        before = picture(house)
        for name in rooms.no_names() + list(others):
            rooms.named(self, call, name)
            self.assertEqual(picture(house), before)

    def test_no_name(self):
        for steps in ("", "ann", "ann cy bob ann cy"):
            house = House(PLAN, (("ann", LOOP), ("bob", ()), ("cy", LOOP)))
            run(house, steps)
            self.asked(house, house.hand, groups_of(PLAN))
            self.asked(house, house.step, groups_of(PLAN))
            self.asked(house, house.group, hands_of(PLAN))

    def test_each_name_of_each_plan(self):
        for plan in things.plans():
            house = house_of(plan)
            for name in hands_of(plan):
                self.assertEqual(house.hand(name), (0, 0, "out", None))
                rooms.named(self, house.group, name)
            for name in groups_of(plan):
                self.assertEqual(house.group(name), (None, 0, ()))
                rooms.named(self, house.hand, name)
                rooms.named(self, house.step, name)


class BeginTests(unittest.TestCase):
    def test_the_values(self):
        for plan in things.plans():
            book = model.book_of(plan, 3)
            house = House(plan, book)
            self.assertIs(house.plan, plan)
            self.assertIs(house.book, book)
            self.assertEqual(House(house.plan, house.book), house)

    def test_at_first(self):
        for plan in things.plans():
            house = House(plan, model.book_of(plan, 4))
            self.assertEqual([house.hand(name) for name in hands_of(plan)], [(0, 0, "out", None)] * len(hands_of(plan)))
            self.assertEqual([house.group(name) for name in groups_of(plan)], [(None, 0, ())] * len(groups_of(plan)))
            self.assertIsNone(house.within())
            self.assertEqual(len(house), 0)

    def test_nothing_handed_in_is_changed(self):
        for plan, book, script in list(model.cases())[:20]:
            before = things.twin((plan, book))
            house = House(plan, book)
            for name in script:
                house.step(name)
            self.assertEqual((plan, book), before)
            self.assertEqual((house.plan, house.book), before)

    def test_kinds_of_values(self):
        for plan, book, script in list(model.cases())[:30]:
            house = House(plan, book)
            for name in script:
                house.step(name)
            for name in hands_of(plan):
                row, last, how, looks = told = house.hand(name)
                self.assertEqual([type(told), type(row), type(last), type(how)], [tuple, int, int, str])
                self.assertIn(type(looks), (int, type(None)))
            for name in groups_of(plan):
                holder, count, places = told = house.group(name)
                self.assertEqual([type(told), type(count), type(places)], [tuple, int, tuple])
                self.assertIn(type(holder), (str, type(None)))
                self.assertEqual([(type(place), type(place[0]), type(place[1])) for place in places],
                                 [(tuple, str, bool)] * len(places))

    def test_within(self):
        house = House(PLAN, BOOK)
        self.assertIsNone(house.within())
        house.step("ann")
        self.assertEqual(house.within(), "ann")
        house.step("ann")
        self.assertIsNone(house.within())


class TwinTests(unittest.TestCase):
    def test_a_twin_steps_by_itself(self):
        for plan, book, script in list(model.cases())[::5]:
            house = House(plan, book)
            for name in script[:100]:
                house.step(name)
            before = picture(house)
            other = house.twin()
            self.assertIs(type(other), House)
            self.assertEqual(other, house)
            self.assertEqual(picture(other), before)
            told = [other.step(name) for name in script[100:]]
            after = picture(other)
            self.assertEqual(picture(house), before)
            self.assertEqual([house.step(name) for name in script[100:]], told)
            self.assertEqual(picture(other), after)
            self.assertEqual(picture(house), after)
            self.assertEqual(house, other)

    def test_twin_of_a_twin(self):
        house = house_of(PLAN, rest=LOOP)
        one = house.twin()
        one.step("ann")
        other = one.twin()
        other.step("bob")
        self.assertEqual((len(house), len(one), len(other)), (0, 1, 2))
        self.assertEqual((house.within(), one.within(), other.within()), (None, "ann", "ann"))


class EqualTests(unittest.TestCase):
    def unlike(self, one, other):
        self.assertFalse(one == other)
        self.assertTrue(one != other)
        self.assertFalse(other == one)
        self.assertTrue(other != one)

    def alike(self, one, other):
        self.assertTrue(one == other)
        self.assertFalse(one != other)

    def test_alike(self):
        one = House(PLAN, BOOK)
        self.alike(one, one)
        self.alike(one, House(things.twin(PLAN), things.twin(BOOK)))
        other = one.twin()
        for name in ("ann", "cy", "bob", "ann"):
            one.step(name)
            other.step(name)
            self.alike(one, other)

    def test_the_plan_otherwise(self):
        one = house_of(("all", 1, ("ann", "bob")))
        for plan in (("all", 2, ("ann", "bob")), ("al", 1, ("ann", "bob")), ("all", 1, ("bob", "ann")),
                     ("all", 1, (("g", 1, ("ann",)), "bob")), ("all", 1, ("ann", "bob", "cy"))):
            self.unlike(one, house_of(plan))

    def test_the_book_otherwise(self):
        one = house_of(PLAN, {"ann": LOOP})
        self.unlike(one, house_of(PLAN))
        self.unlike(one, house_of(PLAN, {"bob": LOOP}))
        self.unlike(one, house_of(PLAN, {"ann": LOOP, "bob": (LET,)}))
        self.unlike(one, house_of(PLAN, {"ann": (("take", 0), LET, ("goto", 0))}))

    def test_a_hand_otherwise(self):
        one = house_of(PLAN, {"ann": (("goto", 0), LET), "bob": (("say", 1),), "cy": (LET,)})
        other = one.twin()
        other.step("ann")
        self.alike(one, other)
        other.step("bob")
        self.unlike(one, other)
        one.step("bob")
        self.alike(one, other)
        one.step("cy")
        self.unlike(one, other)

    def test_last_alone_otherwise(self):
        # Back at row 0, with the -1 of a lack.
        rows = (LET, ("if", -1, 2), ("goto", 0))
        plan = ("all", 1, ("ann",))
        one, other = house_of(plan, rest=rows), house_of(plan, rest=rows)
        run(other, "ann ann ann")
        self.assertEqual((one.hand("ann"), other.hand("ann")), ((0, 0, "out", None), (0, -1, "out", None)))
        self.unlike(one, other)

    def test_how_and_looks_alone_otherwise(self):
        one = house_of(PLAN, rest=(("take", 2),))
        run(one, "ann cy")
        other = one.twin()
        other.step("cy")
        self.assertEqual((one.hand("cy")[2:], other.hand("cy")[2:]), (("loose", 2), ("waits", 2)))
        self.unlike(one, other)
        one.step("cy")
        self.alike(one, other)
        other.step("cy")
        self.unlike(one, other)

    def test_a_group_alone_otherwise(self):
        one = house_of(("all", 1, ("ann", "bob", "cy")), rest=(TAKE,))
        other = one.twin()
        run(one, "ann bob cy")
        run(other, "ann cy bob")
        self.assertEqual([one.hand(name) for name in ("ann", "bob", "cy")],
                         [other.hand(name) for name in ("ann", "bob", "cy")])
        self.unlike(one, other)

    def test_other_kinds(self):
        house = House(PLAN, BOOK)

        class Likeness:
            def __init__(self):
                self.plan, self.book, self.hands, self.groups = PLAN, BOOK, house.hands, house.groups

        for thing in things.anything() + [PLAN, BOOK, str(house), (), Likeness(), House]:
            self.unlike(house, thing)
        # Such an object says by itself that it is equal to all; the house, asked first, says no.
        self.assertFalse(house == things.Same())
        self.assertTrue(house != things.Same())


class LenAndTextTests(unittest.TestCase):
    def test_len(self):
        house = house_of(PLAN, rest=(("take", 0), LET))
        told = [len(house)]
        for name in ("ann", "cy", "cy", "bob", "cy", "bob", "ann"):
            house.step(name)
            told.append(len(house))
        # within, loose, tied, loose, left, tied, let go to one that is within then.
        self.assertEqual(told, [0, 1, 2, 2, 3, 2, 2, 1])
        self.assertEqual(house.within(), "bob")

    def test_the_first_text(self):
        self.assertEqual(str(House(PLAN, BOOK)), "\n".join([
            "hand cy 0 0 out -", "hand ann 0 0 out -", "hand bob 0 0 out -", "group all - 0 -", "group left - 0 -"]))

    def test_the_text_row_by_row(self):
        plan = ("all", 7, ("zoe", ("left", 2, ("cy", ("deep", 3, ("ann", "bob")))), "dee", "abe"))
        house = house_of(plan, {
            "zoe": (LET, LET), "cy": (("take", 12),), "ann": (TAKE, TAKE), "bob": (("take", 0),), "dee": (("take", 0),),
            "abe": (("say", 7), TAKE)})
        run(house, "zoe ann ann bob cy dee dee dee abe abe cy cy")
        self.assertEqual(str(house).split("\n"), [
            "hand zoe 1 -1 out -", "hand cy 0 0 waits 11", "hand ann 2 -1 within -", "hand bob 0 0 loose 0",
            "hand dee 1 0 out -", "hand abe 1 0 loose -",
            "group all left 1 dee!,abe", "group left deep 1 cy", "group deep ann 1 bob"])

    def test_left_groups_and_standing_anew(self):
        plan = ("all", 1, ("ann", ("left", 2, ("bob", "cy"))))
        house = house_of(plan, {"ann": (TAKE,), "bob": (("take", 0), ("take", 5))})
        run(house, "ann bob bob bob")
        self.assertEqual(str(house).split("\n"), [
            "hand ann 1 1 within -", "hand bob 1 0 waits 5", "hand cy 0 0 out -",
            "group all ann 1 left!,left", "group left bob 0 -"])

    def test_great_numbers(self):
        plan = ("all", 1, ("ann", "bob"))
        house = house_of(plan, {"ann": (TAKE,), "bob": (("take", 999999999),)})
        run(house, "ann bob")
        self.assertIn("hand bob 0 0 loose 999999999", str(house))

    def test_telling_changes_nothing(self):
        house = House(PLAN, BOOK)
        house.step("ann")
        before = picture(house)
        house.twin(), len(house), str(house), house.within(), house == house, house.hand("ann"), house.group("all")
        self.assertEqual(picture(house), before)


if __name__ == "__main__":
    unittest.main()
