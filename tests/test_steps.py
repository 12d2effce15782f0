"""Steps that stand: rows by how the hand is, idle steps, say, goto, if, take, try."""

import unittest

import things
from nearlocks.plans import groups_of, hands_of, path_of
from rooms import LET, LOOP, TAKE, house_of, picture, run

ONE = ("all", 1, ("ann", "bob"))
NESTED = ("all", 1, (("left", 2, ("ann", "bob", ("deep", 2, ("cy", "dee")))), "eve", ("right", 2, ("flo",))))


class RowTests(unittest.TestCase):
    def alone(self, program, steps, inside):
        """The house behind so many steps of ann, who is out, or within by a take that comes first."""
        if inside:
            program, steps = (TAKE,) + tuple(moved(row) for row in program), steps + 1
        house = house_of(ONE, {"ann": program, "bob": (TAKE,)})
        return house, run(house, "ann " * steps)

    def told(self, row, inside, events, last, after=1):
        house, found = self.alone((row, ("say", 0)), 1, inside)
        shift = 1 if inside else 0
        self.assertEqual(found, events)
        self.assertEqual(house.hand("ann"), (after + shift, last, "within" if inside else "out", None))

    def test_say(self):
        for number in (0, 1, 99):
            self.told(("say", number), False, (("said", "ann", number),), 0)
            self.told(("say", number), True, (("said", "ann", number),), 0)

    def test_lack_of_let_by_one_that_is_out(self):
        self.told(LET, False, (("lack", "ann"),), -1)

    def test_lack_of_take_and_try_by_one_that_is_within(self):
        for row in (TAKE, ("take", 0), ("take", 3), ("try",)):
            self.told(row, True, (("lack", "ann"),), -1)

    def test_lack_changes_nothing_else(self):
        house, events = self.alone((TAKE,), 0, True)
        groups = [house.group(name) for name in groups_of(ONE)]
        house.step("ann")
        self.assertEqual([house.group(name) for name in groups_of(ONE)], groups)
        self.assertEqual(house.within(), "ann")

    def test_say_ends_the_last_number(self):
        house = house_of(ONE, {"ann": (LET, ("say", 4))})
        run(house, "ann")
        self.assertEqual(house.hand("ann"), (1, -1, "out", None))
        run(house, "ann")
        self.assertEqual(house.hand("ann"), (2, 0, "out", None))

    def test_goto(self):
        rows = (("say", 0), LET, ("say", 1))
        for at in range(4):
            for number in range(4):
                program = rows[:at] + (("goto", number),) + rows[at:]
                house = house_of(ONE, {"ann": (("say", 9),) + tuple(moved(row) for row in program)})
                run(house, "ann " * (at + 1))
                last = house.hand("ann")[1]
                self.assertEqual(house.step("ann"), (("went", "ann", number + 1),))
                self.assertEqual(house.hand("ann"), (number + 1, last, "out", None))

    def test_goto_keeps_the_last_number(self):
        for first, last in ((LET, -1), (("say", 0), 0), (TAKE, 1)):
            for number in range(3):
                house = house_of(ONE, {"ann": (first, ("goto", number), ("say", 1))})
                run(house, "ann ann")
                self.assertEqual(house.hand("ann")[:2], (number, last))

    def test_goto_itself(self):
        house = house_of(ONE, {"ann": (("goto", 0),)})
        before = picture(house)
        for _ in range(3):
            self.assertEqual(house.step("ann"), (("went", "ann", 0),))
            self.assertEqual(picture(house), before)

    def test_if(self):
        for first, last in ((LET, -1), (("say", 0), 0), (TAKE, 1)):
            for told in (-2, -1, 0, 1, 2, 999999999, -999999999):
                for number in range(4):
                    house = house_of(ONE, {"ann": (first, ("if", told, number), LET, LET)})
                    run(house, "ann")
                    how = house.hand("ann")[2]
                    after = number if told == last else 2
                    self.assertEqual(house.step("ann"), (("went", "ann", after),))
                    self.assertEqual(house.hand("ann"), (after, last, how, None))

    def test_if_at_the_last_row(self):
        house = house_of(ONE, {"ann": (("say", 1), ("if", 5, 0))})
        self.assertEqual(run(house, "ann ann"), (("went", "ann", 2),))
        self.assertEqual(house.hand("ann"), (2, 0, "out", None))
        self.assertEqual(house.step("ann"), (("idle", "ann", "ended"),))

    def test_behind_the_last_row(self):
        for program, steps in (((), 0), ((LET,), 1), ((TAKE,), 1), ((TAKE, LET), 2), ((("say", 3),) * 40, 40)):
            house = house_of(ONE, {"ann": program})
            run(house, "ann " * steps)
            before = picture(house)
            self.assertEqual(house.hand("ann")[0], len(program))
            for _ in range(3):
                self.assertEqual(house.step("ann"), (("idle", "ann", "ended"),))
                self.assertEqual(picture(house), before)

    def test_idle_where_it_waits(self):
        house = house_of(ONE, {"ann": (TAKE,), "bob": (TAKE, LET)})
        run(house, "ann bob bob")
        before = picture(house)
        for _ in range(3):
            self.assertEqual(house.step("bob"), (("idle", "bob", "waits"),))
            self.assertEqual(picture(house), before)

    def test_each_event_is_a_tuple_of_texts_and_numbers(self):
        house = house_of(ONE, rest=LOOP)
        for name in ("ann", "bob", "bob", "ann", "ann", "bob"):
            events = house.step(name)
            self.assertIs(type(events), tuple)
            for event in events:
                self.assertIs(type(event), tuple)
                self.assertIs(type(event[0]), str)


def moved(row):
    """The same row in a program that has one row more at its front."""
    return row[:-1] + (row[-1] + 1,) if row[0] in ("goto", "if") else row


class TakeTests(unittest.TestCase):
    def test_alone_through_all_groups(self):
        for depth in range(1, 9):
            plan = things.chain(depth)
            for row in (TAKE, ("take", 0), ("take", 3), ("try",)):
                house = house_of(plan, {"hand": (row, LET)})
                members = ("hand",) + path_of(plan, "hand")
                self.assertEqual(len(members), depth + 1)
                held = tuple(("held", one, around) for one, around in zip(members, members[1:]))
                self.assertEqual(house.step("hand"), held + (("came", "hand"),))
                self.assertEqual(house.hand("hand"), (1, 1, "within", None))
                for one, around in zip(members, members[1:]):
                    self.assertEqual(house.group(around), (one, 1, ()))
                self.assertEqual(house.within(), "hand")

    def test_the_nearest_group_has_a_holder(self):
        for looks in (None, 0, 1, 7, 999999999):
            house = house_of(NESTED, {"ann": (TAKE,), "bob": (("say", 1), LET, ("take", looks))})
            run(house, "ann bob bob")
            self.assertEqual(house.step("bob"), (("stood", "bob", "left"),))
            self.assertEqual(house.hand("bob"), (2, -1, "loose", looks))
            self.assertEqual(house.group("left"), ("ann", 1, (("bob", True),)))
            self.assertEqual(house.group("all"), ("left", 1, ()))
            self.assertEqual(house.within(), "ann")

    def test_one_further_out_has_a_holder(self):
        for looks in (None, 0, 7):
            house = house_of(NESTED, {"ann": (TAKE,), "cy": (("take", looks),)})
            house.step("ann")
            self.assertEqual(house.step("cy"), (("held", "cy", "deep"), ("stood", "deep", "left")))
            self.assertEqual(house.hand("cy"), (0, 0, "waits", looks))
            self.assertEqual(house.group("deep"), ("cy", 0, ()))
            self.assertEqual(house.group("left"), ("ann", 1, (("deep", True),)))

    def test_the_whole_alone_has_a_holder(self):
        house = house_of(NESTED, rest=(TAKE,))
        house.step("eve")
        self.assertEqual(house.step("cy"), (("held", "cy", "deep"), ("held", "deep", "left"), ("stood", "left", "all")))
        self.assertEqual(house.step("ann"), (("stood", "ann", "left"),))
        self.assertEqual(house.step("dee"), (("stood", "dee", "deep"),))
        self.assertEqual(house.step("flo"), (("held", "flo", "right"), ("stood", "right", "all")))
        self.assertEqual([house.hand(name)[2] for name in ("eve", "cy", "ann", "dee", "flo")],
                         ["within", "waits", "loose", "loose", "waits"])
        self.assertEqual(house.group("all"), ("eve", 1, (("left", True), ("right", True))))
        self.assertEqual(house.group("left"), ("deep", 0, (("ann", True),)))
        self.assertEqual(house.group("deep"), ("cy", 0, (("dee", True),)))
        self.assertEqual(house.group("right"), ("flo", 0, ()))

    def test_each_level_of_a_ladder(self):
        plan = things.ladder(8)
        for name in [one for one in hands_of(plan) if one != "hl"]:
            house = house_of(plan, rest=(TAKE,))
            house.step("hl")
            self.assertEqual(house.step(name), (("stood", name, path_of(plan, name)[0]),))
            self.assertEqual(house.hand(name), (0, 0, "loose", None))

    def test_held_in_turn_from_the_outside(self):
        plan = things.ladder(8)
        path = path_of(plan, "hl")
        for at, group in enumerate(path[1:]):
            outer = [one for one in hands_of(plan) if path_of(plan, one)[0] == group][0]
            house = house_of(plan, rest=(TAKE,))
            house.step(outer)
            members = ("hl",) + path
            held = tuple(("held", members[level], members[level + 1]) for level in range(at + 1))
            self.assertEqual(house.step("hl"), held + (("stood", path[at], group),))
            self.assertEqual(house.hand("hl"), (0, 0, "waits", None))

    def test_places_are_in_order(self):
        plan = ("all", 1, tuple("abcdefg"))
        house = house_of(plan, rest=(TAKE,))
        run(house, "d b g a f c e")
        self.assertEqual(house.group("all"), ("d", 1, tuple((name, True) for name in "bgafce")))

    def test_loose_then_tied(self):
        for looks in (None, 0, 1, 7):
            house = house_of(ONE, {"ann": (TAKE,), "bob": (LET, ("take", looks))})
            run(house, "ann bob bob")
            groups = house.group("all")
            self.assertEqual(house.step("bob"), (("tied", "bob"),))
            self.assertEqual(house.hand("bob"), (1, -1, "waits", looks))
            self.assertEqual(house.group("all"), groups)

    def test_to_come_within(self):
        house = house_of(ONE, {"ann": (TAKE, LET), "bob": (("say", 0), LET, ("take", 5), LET)})
        run(house, "ann bob bob bob bob bob")
        self.assertEqual(house.hand("bob"), (2, -1, "waits", 4))
        self.assertEqual(house.step("ann")[-1], ("came", "bob"))
        self.assertEqual(house.hand("bob"), (3, 1, "within", None))


class TryTests(unittest.TestCase):
    def test_the_whole_has_no_holder(self):
        house = house_of(NESTED, {"cy": (LET, ("try",))})
        house.step("cy")
        self.assertEqual(house.step("cy"), (
            ("held", "cy", "deep"), ("held", "deep", "left"), ("held", "left", "all"), ("came", "cy")))
        self.assertEqual(house.hand("cy"), (2, 1, "within", None))

    def test_the_whole_has_a_holder(self):
        for steps, who in (("ann", "bob"), ("eve", "bob"), ("flo", "cy"), ("flo cy", "dee"), ("cy", "dee")):
            house = house_of(NESTED, {who: (LET, ("try",), LET)}, rest=(TAKE,))
            run(house, steps + " " + who)
            groups = [house.group(name) for name in groups_of(NESTED)]
            self.assertEqual(house.step(who), (("no", who),))
            self.assertEqual(house.hand(who), (2, 0, "out", None))
            self.assertEqual([house.group(name) for name in groups_of(NESTED)], groups)

    def test_once_more_when_all_let_go(self):
        house = house_of(ONE, {"ann": (TAKE, LET), "bob": (("try",), ("if", 0, 0), LET)})
        self.assertEqual(run(house, "ann bob"), (("no", "bob"),))
        self.assertEqual(run(house, "bob"), (("went", "bob", 0),))
        self.assertEqual(run(house, "ann bob"), (("held", "bob", "all"), ("came", "bob")))
        self.assertEqual(run(house, "bob"), (("went", "bob", 2),))
        self.assertEqual(run(house, "bob"), (("let", "bob"), ("bare", "all")))


if __name__ == "__main__":
    unittest.main()
