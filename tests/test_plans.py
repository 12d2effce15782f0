"""Plans, and who stands where in them."""

import unittest

import things
from nearlocks.errors import LockError, NoName
from nearlocks.plans import groups_of, hands_of, is_plan, path_of

BAD_NAMES = ("", "abcdefghi", "A", "aB", "a1", "1", "a b", " a", "a ", "a-b", "_", "a\n", "\u00e4", "\u00df",
             "\u0430", "`", "{", "@", "Z", "a\u0301", b"a", None, True, 1, ("a",), ["a"], {"a": 1}, ())
BAD_BOUNDS = (0, -1, -99, True, False, None, "1", "", b"1", (1,), [1], {1: 1}, ())
GOOD_BOUNDS = (1, 2, 9, 999999999, 10 ** 12, 10 ** 40)
BAD_MEMBERS = ((), [], {}, None, 1, True, "b", "", b"b", set(), frozenset(["newname"]), {"newname": 1},
               ["newname"], [("newname", 1, ("newer",))])
BAD_PARTS = (None, True, 1, 0, "", "A", [], ["newname"], {}, (), ("newname",), ("newname", 1),
             ("newname", 1, ()), ("newname", 1, ("newer",), ()), (1, "newname", ("newer",)),
             ["newname", 1, ("newer",)], ("newname", 1, ["newer"]), (("newname", 1, ("newer",)),), b"newname")


def by_hand(group, around=()):
    """(name, whether a group, path) of all: told once more, in another way than the program does."""
    stack = [(group, around)]
    found = []
    while stack:
        thing, path = stack.pop()
        if isinstance(thing, str):
            found.append((thing, False, path))
            continue
        found.append((thing[0], True, path))
        for member in thing[2][::-1]:
            stack.append((member, (thing[0],) + path))
    return found


class IsPlanTests(unittest.TestCase):
    def told(self, thing, answer):
        self.assertIs(is_plan(thing), answer, thing)

    def test_plans_as_they_are(self):
        for plan in things.plans():
            self.told(plan, True)

    def test_the_plans_reach_the_bounds(self):
        sizes = [len(by_hand(plan)) for plan in things.plans()]
        depths = [max([len(path) for name, grouped, path in by_hand(plan) if not grouped])
                  for plan in things.plans()]
        self.assertEqual((min(sizes), max(sizes)), (2, 40))
        self.assertEqual((min(depths), max(depths)), (1, 8))

    def test_bounds_otherwise(self):
        for plan in things.plans():
            for at in things.places(plan):
                if isinstance(things.part(plan, at), tuple):
                    for bound in BAD_BOUNDS:
                        self.told(things.replaced(plan, at + (1,), bound), False)
                    for bound in GOOD_BOUNDS:
                        self.told(things.replaced(plan, at + (1,), bound), True)

    def test_names_otherwise(self):
        for plan in things.plans():
            for at in things.places(plan):
                if isinstance(things.part(plan, at), tuple):
                    at = at + (0,)
                for name in BAD_NAMES:
                    self.told(things.replaced(plan, at, name), False)
                for name in ("newname", "newnames", "qqq"):
                    self.told(things.replaced(plan, at, name), True)

    def test_each_letter_and_length(self):
        for letter in things.LETTERS:
            for many in range(1, 9):
                self.told(("whole", 1, (letter * many,)), True)
                self.told((letter * many, 1, ("hand",)), True)
            self.told(("whole", 1, (letter * 9,)), False)
            self.told((letter * 9, 1, ("hand",)), False)
            self.told(("whole", 1, (letter.upper(),)), False)

    def test_each_other_sign(self):
        for code in list(range(0, 256)) + [0x3b1, 0x430, 0xff41, 0x1d41a]:
            if chr(code) not in things.LETTERS:
                for name in (chr(code), "a" + chr(code), chr(code) + "a"):
                    self.told(("whole", 1, (name,)), False)
                    self.told((name, 1, ("hand",)), False)

    def test_a_name_twice(self):
        for plan in things.plans():
            known = [name for name, grouped, path in by_hand(plan)]
            for at in things.places(plan):
                here = things.part(plan, at)
                own = here[0] if isinstance(here, tuple) else here
                spot = at + (0,) if isinstance(here, tuple) else at
                for name in known:
                    if name != own:
                        self.told(things.replaced(plan, spot, name), False)

    def test_members_otherwise(self):
        for plan in things.plans():
            for at in things.places(plan):
                if isinstance(things.part(plan, at), tuple):
                    for members in BAD_MEMBERS:
                        self.told(things.replaced(plan, at + (2,), members), False)
                    self.told(things.replaced(plan, at + (2,), list(things.part(plan, at)[2])), False)

    def test_a_group_otherwise(self):
        for plan in things.plans():
            for at in things.places(plan):
                here = things.part(plan, at)
                if isinstance(here, tuple):
                    for new in (list(here), here[:2], here[1:], here[:1], here + ("more",), here + ((),),
                                (here[1], here[0], here[2]), (here[0], here[2], here[1]), (here,)):
                        self.told(things.replaced(plan, at, new), False)

    def test_a_part_otherwise(self):
        for plan in things.plans():
            for at in things.places(plan):
                for new in BAD_PARTS:
                    self.told(things.replaced(plan, at, new), False)
                if at:
                    self.told(things.replaced(plan, at, "newname"), True)
                self.told(things.replaced(plan, at, ("newname", 1, ("newer",))), True)

    def test_a_member_more_or_fewer(self):
        for plan in things.plans():
            for at in things.places(plan):
                here = things.part(plan, at)
                if isinstance(here, tuple):
                    spot = at + (2,)
                    self.told(things.replaced(plan, spot, here[2] + ("newname",)), True)
                    self.told(things.replaced(plan, spot, here[2] + here[2][:1]), False)
                    self.told(things.replaced(plan, spot, here[2][1:]), len(here[2]) > 1)

    def test_a_hand_by_itself(self):
        for name in ("a", "hand", "abcdefgh"):
            self.told(name, False)

    def test_anything(self):
        for thing in things.anything() + [()]:
            self.told(thing, False)
            figures = things.picture(thing)
            self.told(("whole", thing, ("hand",)), figures.isdigit() and figures != "0")
            self.told((thing, 1, ("hand",)), False)
            self.told(("whole", 1, (thing,)), False)
            self.told(("whole", 1, thing), False)

    def test_nothing_is_changed(self):
        for thing in things.anything() + [("whole", 1, ["hand"]), ("whole", [1], ({}, [])), ["whole", 1, ["hand"]]]:
            for given in (thing, (thing, 1, ("hand",)), ("whole", 1, ("hand", thing))):
                before = things.picture(given)
                is_plan(given)
                self.assertEqual(things.picture(given), before)

    def test_the_same_part_again_and_again(self):
        twice = things.nested(20, "a", lambda x: ("g", 1, (x, x)))
        self.assertIs(is_plan(twice), False)
        pairs = things.nested(20, (), lambda x: (x, x))
        self.assertIs(is_plan(pairs), False)


class NamesTests(unittest.TestCase):
    def test_a_known_plan(self):
        plan = ("all", 1, (("left", 2, ("zed", ("deep", 3, ("bob", "ann")))), "dee", ("right", 4, ("eve",)), "cy"))
        self.assertEqual(hands_of(plan), ("zed", "bob", "ann", "dee", "eve", "cy"))
        self.assertEqual(groups_of(plan), ("all", "left", "deep", "right"))
        self.assertEqual(path_of(plan, "all"), ())
        self.assertEqual(path_of(plan, "left"), ("all",))
        self.assertEqual(path_of(plan, "deep"), ("left", "all"))
        self.assertEqual(path_of(plan, "ann"), ("deep", "left", "all"))
        self.assertEqual(path_of(plan, "zed"), ("left", "all"))
        self.assertEqual(path_of(plan, "dee"), ("all",))
        self.assertEqual(path_of(plan, "eve"), ("right", "all"))

    def test_the_least_plan(self):
        plan = ("a", 1, ("b",))
        self.assertEqual((hands_of(plan), groups_of(plan)), (("b",), ("a",)))
        self.assertEqual((path_of(plan, "a"), path_of(plan, "b")), ((), ("a",)))

    def test_all_plans(self):
        for plan in things.plans():
            before = things.twin(plan)
            rows = by_hand(plan)
            with self.subTest(plan=plan):
                self.assertEqual(hands_of(plan), tuple(name for name, grouped, path in rows if not grouped))
                self.assertEqual(groups_of(plan), tuple(name for name, grouped, path in rows if grouped))
                for name, grouped, path in rows:
                    self.assertEqual(path_of(plan, name), path)
                    self.assertIsInstance(path_of(plan, name), tuple)
                self.assertEqual(plan, before)

    def test_members_in_any_order(self):
        plan = ("w", 1, ("c", ("g", 1, ("b",)), "a"))
        turned = ("w", 1, ("a", ("g", 1, ("b",)), "c"))
        self.assertEqual(hands_of(plan), ("c", "b", "a"))
        self.assertEqual(hands_of(turned), ("a", "b", "c"))


class NoNameTests(unittest.TestCase):
    def refused(self, plan, name):
        before = things.picture(name)
        with self.assertRaises(NoName, msg=(plan, name)) as caught:
            path_of(plan, name)
        self.assertIs(caught.exception.name, name)
        self.assertIsInstance(caught.exception, LockError)
        self.assertEqual(things.picture(name), before)

    def test_a_name_near_one_that_is_there(self):
        plan = ("all", 1, (("left", 2, ("ann", "bob")), "cy"))
        for name in ("al", "alll", "All", "ALL", "lef", "lefts", " left", "left ", "an", "annn", "Ann", "nn", "bobb",
                     "bo", "c", "cyy", "cy\n", "ann bob", "", "-", b"ann", ("ann",), ["ann"], {"ann": 1}, {"ann"}):
            self.refused(plan, name)

    def test_near_names_in_all_plans(self):
        for plan in things.plans():
            known = [name for name, grouped, path in by_hand(plan)]
            for name in known:
                for near in (name[:-1], name[1:], name + "a", name.upper(), name + " ", name[::-1] + "x"):
                    if near not in known:
                        self.refused(plan, near)

    def test_anything_as_name(self):
        plan = ("all", 1, (("left", 2, ("ann", "bob")), "cy"))
        for name in things.anything() + [()]:
            self.refused(plan, name)

    def test_parts_of_the_plan_as_name(self):
        plan = ("all", 1, (("left", 2, ("ann", "bob")), "cy"))
        for name in (plan, plan[2], plan[2][0], plan[2][0][2], 1, 2):
            self.refused(plan, name)

    def test_an_object_that_is_equal_to_all(self):
        with self.assertRaises(NoName):
            path_of(("a", 1, ("b",)), things.Same())


if __name__ == "__main__":
    unittest.main()
