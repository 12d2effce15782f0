"""Steps that hand on: let, looks, to leave."""

import unittest

import things
from nearlocks.plans import groups_of, hands_of, path_of
from rooms import LET, LOOP, TAKE, house_of, picture, run, tie_all

GREAT = 999999999


def stand_all(house, words):
    """These take in turn, and all are tied."""
    run(house, words)
    tie_all(house)


def flat(bound, whole=1):
    """Five hands in a group, with one beside it."""
    return ("all", whole, (("left", bound, tuple("abcde")), "z"))


# s in g in all; a and b in s, c in g, d in all.
DEEP = ("all", 1, (("g", 1, (("s", 1, ("a", "b")), "c")), "d"))


class LetTests(unittest.TestCase):
    def test_near_up_to_the_bound_then_over(self):
        for bound in (1, 2, 3, 4):
            house = house_of(flat(bound), rest=LOOP)
            stand_all(house, "a b c d e z")
            for at in range(bound - 1):
                who, after = "abcde"[at:at + 2]
                self.assertEqual(house.step(who), (("let", who), ("handed", after, "left", "near"), ("came", after)))
                self.assertEqual(house.group("left")[:2], (after, at + 2))
                self.assertEqual(house.group("all"), ("left", 1, (("z", True),)))
                self.assertEqual(house.hand(who), (2, 0, "out", None))
                self.assertEqual(house.hand(after), (1, 1, "within", None))
            who, after = "abcde"[bound - 1:bound + 1]
            self.assertEqual(house.step(who), (
                ("let", who), ("handed", after, "left", "over"), ("handed", "z", "all", "near"), ("came", "z")))
            self.assertEqual(house.group("left"), (after, 0, tuple((one, True) for one in "abcde"[bound + 1:])))
            self.assertEqual(house.group("all"), ("z", 1, (("left", True),)))
            self.assertEqual(house.hand(after), (0, 0, "waits", None))

    def test_great_bounds(self):
        for bound in (5, 99, GREAT):
            house = house_of(flat(bound), rest=LOOP)
            stand_all(house, "a z b c d e")
            for who, after in zip("abcd", "bcde"):
                self.assertEqual(house.step(who)[1], ("handed", after, "left", "near"))
            self.assertEqual(house.group("left"), ("e", 5, ()))
            self.assertEqual(house.step("e"), (
                ("let", "e"), ("bare", "left"), ("handed", "z", "all", "near"), ("came", "z")))

    def test_the_count_begins_anew_with_the_lock(self):
        house = house_of(flat(2), rest=LOOP)
        stand_all(house, "a b c d e z")
        run(house, "a b")
        self.assertEqual(house.group("left"), ("c", 0, (("d", True), ("e", True))))
        self.assertEqual(house.step("z"), (("let", "z"), ("handed", "left", "all", "near"), ("came", "c")))
        self.assertEqual(house.group("left"), ("c", 1, (("d", True), ("e", True))))
        self.assertEqual(house.step("c"), (("let", "c"), ("handed", "d", "left", "near"), ("came", "d")))
        # Over, with nobody else around: the group itself is the next one there.
        self.assertEqual(house.step("d"), (
            ("let", "d"), ("handed", "e", "left", "over"), ("handed", "left", "all", "near"), ("came", "e")))
        self.assertEqual(house.group("left"), ("e", 1, ()))
        self.assertEqual(house.group("all"), ("left", 1, ()))

    def test_over_at_several_levels_in_one_step(self):
        house = house_of(DEEP, rest=LOOP)
        stand_all(house, "a b c d")
        self.assertEqual(house.step("a"), (
            ("let", "a"), ("handed", "b", "s", "over"), ("handed", "c", "g", "over"), ("handed", "d", "all", "near"),
            ("came", "d")))
        self.assertEqual(house.group("s"), ("b", 0, ()))
        self.assertEqual(house.group("g"), ("c", 0, (("s", True),)))
        self.assertEqual(house.group("all"), ("d", 1, (("g", True),)))
        self.assertEqual(house.step("d"), (("let", "d"), ("handed", "g", "all", "near"), ("came", "c")))
        self.assertEqual(house.step("c"), (
            ("let", "c"), ("handed", "s", "g", "over"), ("handed", "g", "all", "near"), ("came", "b")))
        self.assertEqual([house.group(name) for name in ("s", "g", "all")], [("b", 1, ()), ("s", 1, ()), ("g", 1, ())])

    def test_over_then_near(self):
        house = house_of(("all", 1, (("g", 2, (("s", 1, ("a", "b")), "c")), "d")), rest=LOOP)
        stand_all(house, "a b c d")
        self.assertEqual(house.step("a"), (
            ("let", "a"), ("handed", "b", "s", "over"), ("handed", "c", "g", "near"), ("came", "c")))
        self.assertEqual(house.group("g"), ("c", 2, (("s", True),)))

    def test_bare_then_near_and_bare_then_over(self):
        for bound, reason, came in ((2, "near", "c"), (1, "over", "d")):
            house = house_of(("all", 1, (("g", bound, (("s", 1, ("a", "b")), "c")), "d")), rest=LOOP)
            stand_all(house, "a c d")
            events = house.step("a")
            self.assertEqual(events[:3], (("let", "a"), ("bare", "s"), ("handed", "c", "g", reason)))
            self.assertEqual(events[-1], ("came", came))
            self.assertEqual(house.group("s"), (None, 0, ()))

    def test_over_to_itself_at_all_levels(self):
        house = house_of(DEEP, rest=LOOP)
        stand_all(house, "a b")
        self.assertEqual(house.step("a"), (
            ("let", "a"), ("handed", "b", "s", "over"), ("handed", "s", "g", "over"), ("handed", "g", "all", "near"),
            ("came", "b")))
        self.assertEqual([house.group(name) for name in ("s", "g", "all")], [("b", 1, ()), ("s", 1, ()), ("g", 1, ())])

    def test_bare_up_to_the_whole(self):
        for depth in range(1, 9):
            plan = things.chain(depth)
            house = house_of(plan, rest=LOOP)
            house.step("hand")
            path = path_of(plan, "hand")
            self.assertEqual(house.step("hand"), (("let", "hand"),) + tuple(("bare", name) for name in path))
            for name in path:
                self.assertEqual(house.group(name), (None, 0, ()))
            self.assertEqual(house.hand("hand"), (2, 0, "out", None))
            self.assertIsNone(house.within())

    def test_the_wholes_own_bound_counts_for_nothing(self):
        for bound in (1, 2, 3, GREAT):
            house = house_of(("all", bound, tuple("abcde")), rest=LOOP)
            stand_all(house, "a b c d e")
            for who, after in zip("abcd", "bcde"):
                self.assertEqual(house.step(who), (("let", who), ("handed", after, "all", "near"), ("came", after)))
                self.assertEqual(house.group("all")[:2], (after, 1))
            self.assertEqual(house.step("e"), (("let", "e"), ("bare", "all")))

    def test_the_bound_of_each_level_is_its_own(self):
        told = {
            (2, 1): ("b z j k c d", "b near, c over, j over, z near, g near, k over, g near, s over, g near, d near"),
            (1, 3): ("j k z b c d", "b over, j near, k near, s over, z near, g near, c over, s near, d over, s near"),
        }
        for inner, outer in told:
            plan = ("all", 9, (("g", outer, (("s", inner, tuple("abcd")), "j", "k")), "z"))
            house = house_of(plan, rest=(TAKE, LET))
            stand_all(house, "a b c d j k z")
            came, handed = [], []
            while house.within() is not None:
                events = house.step(house.within())
                came += [event[1] for event in events if event[0] == "came"]
                handed += [event[1] + " " + event[3] for event in events if event[0] == "handed"]
            self.assertEqual((" ".join(came), ", ".join(handed)), told[(inner, outer)])

    def test_who_lets_go_may_take_anew(self):
        house = house_of(("all", 1, ("a", "b")), rest=LOOP)
        stand_all(house, "a b")
        run(house, "a a a")
        self.assertEqual(house.group("all"), ("b", 1, (("a", True),)))
        self.assertEqual(house.hand("a"), (0, 0, "loose", None))


class PassedTests(unittest.TestCase):
    def test_at_the_front_alone(self):
        house = house_of(flat(9), {name: (("take", 0),) for name in "bce"}, rest=LOOP)
        stand_all(house, "a b c d e")
        run(house, "b c e")
        self.assertEqual(house.group("left")[2], (("b", False), ("c", False), ("d", True), ("e", False)))
        self.assertEqual(house.step("a"), (
            ("let", "a"), ("passed", "b", "left"), ("passed", "c", "left"), ("handed", "d", "left", "near"),
            ("came", "d")))
        self.assertEqual(house.group("left"), ("d", 2, (("e", False),)))
        self.assertEqual(house.step("d"), (("let", "d"), ("passed", "e", "left"), ("bare", "left"), ("bare", "all")))
        self.assertEqual(house.group("left"), (None, 0, ()))

    def test_in_each_row_that_is_let_go(self):
        plan = ("all", 1, (("g", 1, (("s", 1, ("a", "b", "e")), "c", "f")), "d", "h"))
        house = house_of(plan, {name: (("take", 0),) for name in "ecd"}, rest=LOOP)
        stand_all(house, "a e b c f d h")
        run(house, "e c d")
        self.assertEqual(house.step("a"), (
            ("let", "a"), ("passed", "e", "s"), ("handed", "b", "s", "over"), ("passed", "c", "g"),
            ("handed", "f", "g", "over"), ("passed", "d", "all"), ("handed", "h", "all", "near"), ("came", "h")))
        self.assertEqual(house.group("all"), ("h", 1, (("g", True),)))

    def test_rows_that_are_not_let_go_stay(self):
        house = house_of(("all", 1, (("left", 2, ("a", "b")), "c")), {"c": (("take", 0),)}, rest=LOOP)
        stand_all(house, "a b c")
        house.step("c")
        self.assertEqual(house.step("a"), (("let", "a"), ("handed", "b", "left", "near"), ("came", "b")))
        self.assertEqual(house.group("all"), ("left", 1, (("c", False),)))

    def test_up_to_the_whole(self):
        house = house_of(DEEP, {name: (("take", 0),) for name in "bcd"}, rest=LOOP)
        stand_all(house, "a b c d")
        run(house, "b c d")
        self.assertEqual(house.step("a"), (
            ("let", "a"), ("passed", "b", "s"), ("bare", "s"), ("passed", "c", "g"), ("bare", "g"),
            ("passed", "d", "all"), ("bare", "all")))
        for name in groups_of(DEEP):
            self.assertEqual(house.group(name), (None, 0, ()))

    def test_a_left_group_is_passed(self):
        plan = ("all", 1, ("a", ("g", 1, ("b", "c")), "d"))
        house = house_of(plan, {"b": (("take", 0),)}, rest=LOOP)
        stand_all(house, "a b d")
        self.assertEqual(house.step("b"), (("left", "b"), ("bare", "g"), ("left", "g")))
        self.assertEqual(house.group("all"), ("a", 1, (("g", False), ("d", True))))
        # The group stands anew by another hand, behind the place that it left.
        self.assertEqual(house.step("c"), (("held", "c", "g"), ("stood", "g", "all")))
        self.assertEqual(house.group("all"), ("a", 1, (("g", False), ("d", True), ("g", True))))
        self.assertEqual(house.step("a"), (
            ("let", "a"), ("passed", "g", "all"), ("handed", "d", "all", "near"), ("came", "d")))
        self.assertEqual(house.step("d"), (("let", "d"), ("handed", "g", "all", "near"), ("came", "c")))

    def test_ones_own_left_place(self):
        # b leaves, stands anew, and comes; its own left place stays behind c's, and is passed.
        house = house_of(("all", 1, ("a", "b", "c")), {"b": (("take", 0), TAKE, LET)}, rest=LOOP)
        stand_all(house, "a b")
        run(house, "b")
        stand_all(house, "c b")
        self.assertEqual(house.group("all"), ("a", 1, (("b", False), ("c", True), ("b", True))))
        self.assertEqual(house.step("a"), (
            ("let", "a"), ("passed", "b", "all"), ("handed", "c", "all", "near"), ("came", "c")))
        self.assertEqual(house.step("c"), (("let", "c"), ("handed", "b", "all", "near"), ("came", "b")))


class TiesTests(unittest.TestCase):
    def idle(self, house, name):
        before = picture(house)
        for _ in range(3):
            self.assertEqual(house.step(name), (("idle", name, "ties"),))
            self.assertEqual(picture(house), before)

    def test_first_in_the_nearest_row(self):
        for bound in (1, 2, GREAT):
            house = house_of(flat(bound), rest=LOOP)
            run(house, "a b")
            self.idle(house, "a")
            self.assertEqual(house.step("b"), (("tied", "b"),))
            self.assertEqual(house.step("a")[-1], ("came", "b"))

    def test_not_first(self):
        house = house_of(flat(2), rest=LOOP)
        run(house, "a b b c")
        self.assertEqual(house.step("a"), (("let", "a"), ("handed", "b", "left", "near"), ("came", "b")))
        self.assertEqual(house.hand("c")[2], "loose")
        self.idle(house, "b")

    def test_first_in_a_row_that_is_not_let_go(self):
        house = house_of(flat(2), rest=LOOP)
        run(house, "a b b z")
        self.assertEqual(house.step("a"), (("let", "a"), ("handed", "b", "left", "near"), ("came", "b")))

    def test_first_in_whichever_row(self):
        plan = ("all", 1, (("g", 1, (("s", 1, ("a", "b", "e")), "c", "f")), "d", "h"))
        programs = {name: (("take", 0),) for name in "ecd"}
        told = (("let", "a"), ("passed", "e", "s"), ("handed", "b", "s", "over"), ("passed", "c", "g"),
                ("handed", "f", "g", "over"), ("passed", "d", "all"), ("handed", "h", "all", "near"), ("came", "h"))
        for loose in ("b", "f", "h", "b f", "f h", "b h", "b f h"):
            house = house_of(plan, programs, rest=LOOP)
            run(house, "a e c d e c d e c d b f h")
            for name in ("b", "f", "h"):
                if name not in loose:
                    house.step(name)
            self.assertEqual([house.group(name)[2][0] for name in ("s", "g", "all")],
                             [("e", False), ("c", False), ("d", False)])
            for name in loose.split():
                self.idle(house, "a")
                house.step(name)
            self.assertEqual(house.step("a"), told)

    def test_behind_bare_groups(self):
        house = house_of(DEEP, rest=LOOP)
        run(house, "a d")
        self.idle(house, "a")
        house.step("d")
        self.assertEqual(house.step("a"), (
            ("let", "a"), ("bare", "s"), ("bare", "g"), ("handed", "d", "all", "near"), ("came", "d")))

    def test_behind_left_places(self):
        house = house_of(flat(3), {"b": (("take", 0),)}, rest=LOOP)
        run(house, "a b b b c")
        self.assertEqual(house.group("left")[2], (("b", False), ("c", True)))
        self.idle(house, "a")
        house.step("c")
        self.assertEqual(house.step("a"), (
            ("let", "a"), ("passed", "b", "left"), ("handed", "c", "left", "near"), ("came", "c")))

    def test_a_group_that_is_first_is_never_loose(self):
        house = house_of(("all", 1, ("a", ("g", 1, ("b", "c")))), rest=LOOP)
        run(house, "a b c")
        self.assertEqual(house.hand("c")[2], "loose")
        self.assertEqual(house.step("a"), (("let", "a"), ("handed", "g", "all", "near"), ("came", "b")))


class LookTests(unittest.TestCase):
    def test_one_fewer_each(self):
        for looks in (0, 1, 2, 5):
            house = house_of(flat(2), {"a": (TAKE,), "b": (LET, ("take", looks), LET)})
            run(house, "a b b b")
            for left in range(looks, 0, -1):
                self.assertEqual(house.hand("b"), (1, -1, "waits", left))
                groups = [house.group(name) for name in groups_of(house.plan)]
                self.assertEqual(house.step("b"), (("looked", "b"),))
                self.assertEqual([house.group(name) for name in groups_of(house.plan)], groups)
            self.assertEqual(house.hand("b"), (1, -1, "waits", 0))
            self.assertEqual(house.step("b"), (("left", "b"),))
            self.assertEqual(house.hand("b"), (2, 0, "out", None))
            self.assertEqual(house.group("left"), ("a", 1, (("b", False),)))
            self.assertEqual(house.step("b"), (("lack", "b"),))

    def test_a_standing_place_in_the_midst(self):
        house = house_of(flat(9), {"c": (("take", 0),)}, rest=LOOP)
        stand_all(house, "a b c d")
        self.assertEqual(house.step("c"), (("left", "c"),))
        self.assertEqual(house.group("left"), ("a", 1, (("b", True), ("c", False), ("d", True))))

    def test_left_twice(self):
        house = house_of(flat(9), {"b": (("take", 0),) * 3}, rest=LOOP)
        run(house, "a b b b")
        run(house, "b b b")
        run(house, "b b")
        self.assertEqual(house.group("left"), ("a", 1, (("b", False), ("b", False), ("b", True))))
        house.step("b")
        self.assertEqual(house.group("left"), ("a", 1, (("b", False), ("b", False), ("b", False))))

    def test_a_loose_one_elsewhere_does_not_matter(self):
        house = house_of(flat(9), {"b": (("take", 0),)}, rest=LOOP)
        run(house, "a b b c")
        self.assertEqual(house.step("b"), (("left", "b"),))

    def holder(self, others):
        """z is within, a holds left, which stands, and these stand behind a."""
        house = house_of(flat(2), {name: (("take", 0), LET) for name in "abc"}, rest=LOOP)
        stand_all(house, "z a " + others)
        return house

    def test_as_holder_with_others_behind(self):
        house = self.holder("b c")
        self.assertEqual(house.step("a"), (("left", "a"), ("handed", "b", "left", "left")))
        self.assertEqual(house.hand("a"), (1, 0, "out", None))
        self.assertEqual(house.hand("b"), (0, 0, "waits", 0))
        self.assertEqual(house.group("left"), ("b", 0, (("c", True),)))
        self.assertEqual(house.group("all"), ("z", 1, (("left", True),)))
        self.assertEqual(house.step("z"), (("let", "z"), ("handed", "left", "all", "near"), ("came", "b")))

    def test_as_holder_with_left_ones_behind(self):
        house = self.holder("b c d")
        run(house, "b c")
        self.assertEqual(house.step("a"), (
            ("left", "a"), ("passed", "b", "left"), ("passed", "c", "left"), ("handed", "d", "left", "left")))
        self.assertEqual(house.group("left"), ("d", 0, ()))

    def test_as_holder_left_ones_behind_one_that_stands_stay(self):
        house = self.holder("d b")
        house.step("b")
        self.assertEqual(house.step("a"), (("left", "a"), ("handed", "d", "left", "left")))
        self.assertEqual(house.group("left"), ("d", 0, (("b", False),)))

    def test_as_holder_with_none_but_left_ones(self):
        house = self.holder("b")
        house.step("b")
        self.assertEqual(house.step("a"), (("left", "a"), ("passed", "b", "left"), ("bare", "left"), ("left", "left")))
        self.assertEqual(house.group("left"), (None, 0, ()))
        self.assertEqual(house.group("all"), ("z", 1, (("left", False),)))

    def test_as_holder_alone(self):
        house = self.holder("")
        self.assertEqual(house.step("a"), (("left", "a"), ("bare", "left"), ("left", "left")))
        self.assertEqual(house.group("left"), (None, 0, ()))
        self.assertEqual(house.group("all"), ("z", 1, (("left", False),)))
        self.assertEqual(house.step("z"), (("let", "z"), ("passed", "left", "all"), ("bare", "all")))

    def test_group_by_group_up_to_the_whole(self):
        for depth in range(1, 8):
            inner = things.chain(depth)
            plan = ("all", 1, ("z", inner))
            house = house_of(plan, {"hand": (("take", 0),)}, rest=LOOP)
            run(house, "z hand")
            path = path_of(plan, "hand")
            events = [("left", "hand")]
            for name in path[:-1]:
                events += [("bare", name), ("left", name)]
            self.assertEqual(house.step("hand"), tuple(events))
            for name in path[:-1]:
                self.assertEqual(house.group(name), (None, 0, ()))
            self.assertEqual(house.group("all"), ("z", 1, ((inner[0], False),)))
            self.assertEqual(len(house), 1)

    def test_up_to_a_group_with_another_holder(self):
        plan = ("all", 1, ("z", ("g", 1, ("c", ("s", 1, ("a", "b"))))))
        house = house_of(plan, {"a": (("take", 0),)}, rest=LOOP)
        stand_all(house, "z c a")
        self.assertEqual(house.step("a"), (("left", "a"), ("bare", "s"), ("left", "s")))
        self.assertEqual(house.group("g"), ("c", 0, (("s", False),)))
        self.assertEqual(house.group("all"), ("z", 1, (("g", True),)))

    def test_up_to_a_group_in_which_another_stands(self):
        plan = ("all", 1, ("z", ("g", 1, ("c", "d", ("s", 1, ("a", "b"))))))
        house = house_of(plan, {name: (("take", 0),) for name in "ad"}, rest=LOOP)
        stand_all(house, "z a d c")
        house.step("d")
        self.assertEqual(house.step("a"), (
            ("left", "a"), ("bare", "s"), ("left", "s"), ("passed", "d", "g"), ("handed", "c", "g", "left")))
        self.assertEqual(house.group("g"), ("c", 0, ()))
        self.assertEqual(house.group("s"), (None, 0, ()))
        self.assertEqual(house.group("all"), ("z", 1, (("g", True),)))

    def test_a_loose_hand_first(self):
        house = self.holder("b")
        run(house, "b c")
        self.assertEqual(house.group("left"), ("a", 0, (("b", False), ("c", True))))
        before = picture(house)
        for _ in range(3):
            self.assertEqual(house.step("a"), (("idle", "a", "ties"),))
            self.assertEqual(picture(house), before)
        self.assertEqual(house.step("c"), (("tied", "c"),))
        self.assertEqual(house.step("a"), (("left", "a"), ("passed", "b", "left"), ("handed", "c", "left", "left")))

    def test_a_loose_hand_first_further_out(self):
        plan = ("all", 1, ("z", ("g", 1, ("c", ("s", 1, ("a", "b"))))))
        house = house_of(plan, {"a": (("take", 0),), "b": (("take", 0),)}, rest=LOOP)
        run(house, "z a b b b c")
        before = picture(house)
        self.assertEqual(house.group("s"), ("a", 0, (("b", False),)))
        for _ in range(3):
            self.assertEqual(house.step("a"), (("idle", "a", "ties"),))
            self.assertEqual(picture(house), before)
        house.step("c")
        self.assertEqual(house.step("a"), (
            ("left", "a"), ("passed", "b", "s"), ("bare", "s"), ("left", "s"), ("handed", "c", "g", "left")))

    def test_a_loose_hand_first_in_looks_above_nought(self):
        house = house_of(flat(2), {"a": (("take", 1),)}, rest=LOOP)
        run(house, "z a b")
        self.assertEqual(house.step("a"), (("looked", "a"),))
        self.assertEqual(house.step("a"), (("idle", "a", "ties"),))
        self.assertEqual(house.hand("a"), (0, 0, "waits", 0))

    def test_handed_to_by_leaving_one_may_leave_too(self):
        house = self.holder("b c")
        run(house, "a b")
        self.assertEqual(house.step("c"), (("left", "c"), ("bare", "left"), ("left", "left")))
        self.assertEqual([house.hand(name)[2] for name in hands_of(house.plan)], ["out"] * 5 + ["within"])


if __name__ == "__main__":
    unittest.main()
