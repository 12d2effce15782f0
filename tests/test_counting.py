"""Turns, even plans, how many others come ahead, and the script that brings just so many."""

import random
import unittest

import evens
import model
import rooms
import things
from nearlocks.counting import ahead, endless, is_even, turn_of, worst
from nearlocks.errors import NotWaiting, Uneven
from nearlocks.houses import House
from nearlocks.plans import groups_of, hands_of, path_of
from nearlocks.scripts import walk
from nearlocks.tales import comings
from rooms import LET, LOOP, TAKE, house_of, picture, run

GREAT = 999999999
EVEN = ("all", 1, (("left", 2, (("deep", 2, ("ann", "bob")), ("low", 1, (("one", 2, ("cy", "dee")),)))), "eve"))
ODD = ("all", 1, (("left", 2, ("ann", ("deep", 2, ("bob", "cy")))), "dee"))


def turn_by(thing):
    """A member's turn, told from the inside out, with how many hands there are in it."""
    if isinstance(thing, str):
        return 1, 1
    inner = [turn_by(member) for member in thing[2]]
    many = sum(hands for turn, hands in inner)
    return (1 if many == 1 else thing[1] * max(inner)[0]), many


def parts(thing):
    return [thing] + ([] if isinstance(thing, str) else [one for member in thing[2] for one in parts(member)])


def name_of(thing):
    return thing if isinstance(thing, str) else thing[0]


class TurnTests(unittest.TestCase):
    def test_by_hand(self):
        for name, turn in (("all", None), ("left", 4), ("deep", 2), ("ann", 1), ("low", 2), ("one", 2), ("cy", 1),
                           ("eve", 1)):
            self.assertEqual(turn_of(EVEN, name), turn)
        for name, turn in (("all", None), ("left", 4), ("ann", 1), ("deep", 2), ("cy", 1), ("dee", 1)):
            self.assertEqual(turn_of(ODD, name), turn)

    def test_one_hand_in_all(self):
        plan = ("all", 7, (("a", GREAT, (("b", 5, (("c", 3, ("h",)),)),)), ("d", 4, (("e", 9, ("x",)), "y"))))
        for name in ("a", "b", "c", "h", "e", "x", "y"):
            self.assertEqual(turn_of(plan, name), 1)
        self.assertEqual(turn_of(plan, "d"), 4)
        self.assertIsNone(turn_of(("all", 7, ("h",)), "all"))
        chain = things.chain(8)
        for name in groups_of(chain)[1:] + hands_of(chain):
            self.assertEqual(turn_of(chain, name), 1)
        self.assertIsNone(turn_of(chain, chain[0]))

    def test_bounds_of_one_to_nine_figures(self):
        for figures in range(1, 10):
            for bound in (10 ** (figures - 1), 10 ** figures - 1):
                plan = ("all", 3, (("g", bound, ("a", "b")), ("k", bound, (("l", 2, ("c", "d")), ("m", 7, ("e",))))))
                self.assertEqual(turn_of(plan, "g"), bound)
                self.assertEqual(turn_of(plan, "k"), bound * 2)
                self.assertEqual(turn_of(plan, "m"), 1)
        inner = ("ga", GREAT, ("x", "y"))
        for level, letter in enumerate("bcdefg"):
            inner = ("g" + letter, GREAT, (inner,))
            self.assertEqual(turn_of(("all", 1, (inner,)), "g" + letter), GREAT ** (level + 2))

    def test_the_greatest_of_its_members(self):
        one, two = ("one", 3, ("a", "b")), ("two", 5, ("c", "d"))
        for members in ((one, two, "e"), (two, "e", one), ("e", one, two)):
            plan = ("all", 1, (("g", 2, members),))
            self.assertEqual(turn_of(plan, "g"), 10)

    def test_drawn_plans(self):
        for plan in things.plans() + [model.small(seed) for seed in range(60)]:
            for part in parts(plan)[1:]:
                self.assertEqual(turn_of(plan, name_of(part)), turn_by(part)[0])
            self.assertIsNone(turn_of(plan, plan[0]))

    def test_as_many_as_come_in_one_turn(self):
        # Where all take without end, those that come under one member of the whole, one behind the other, are a turn.
        many = 0
        for seed in range(120):
            plan = evens.even(seed, depth=seed % 4)
            if len(plan[2]) > 1 and max(turn_by(member)[0] for member in plan[2]) > 1:
                many += 1
                self.look_at_runs(plan)
        self.assertGreater(many, 40)

    def look_at_runs(self, plan):
        runs = []
        for name in evens.comings_without_end(plan, 60):
            top = (name, *path_of(plan, name))[-2]
            if runs and runs[-1][0] == top:
                runs[-1][1] += 1
            else:
                runs.append([top, 1])
        # The first run may begin, the last one end in the midst of a turn.
        for top, many in runs[1:-1]:
            self.assertEqual(many, turn_of(plan, top))
        self.assertGreater(len(runs), 2)

    def test_no_name(self):
        for plan in (EVEN, ODD, ("all", 1, ("ann",))):
            for name in rooms.no_names():
                if name != "ann" or type(name) is not str:
                    rooms.named(self, turn_of, plan, name)


class EvenTests(unittest.TestCase):
    def test_even(self):
        for plan in (
                EVEN, ("all", 1, ("a",)), ("all", 9, ("a", "b", "c")), things.chain(8), things.broad(39),
                ("all", 1, (("g", 3, ("a", "b")),)),
                # The whole's own members may be unlike.
                ("all", 1, (("g", 3, ("a", "b")), "c", ("k", 2, (("l", 2, ("d", "e")), ("m", 2, ("f", "h")))))),
                # One hand in all counts as a hand, and so does a group with bound 1.
                ("all", 1, (("g", 3, ("a", ("k", 9, ("b",)), ("l", 5, (("m", 7, ("c",)),)))),)),
                ("all", 1, (("g", 3, ("a", ("k", 1, ("b", "c")))),)),
                # 2 times 3 is 3 times 2.
                ("all", 1, (("g", 5, (("k", 2, (("l", 3, ("a", "b")),)), ("m", 3, (("n", 2, ("c", "d")),)))),)),
                ("all", 1, (("g", 5, (("k", 6, ("a", "b")), ("m", 3, (("n", 2, ("c", "d")),)))),))):
            self.assertIs(is_even(plan), True, plan)

    def test_not_even(self):
        for plan in (
                ODD, things.ladder(3), things.ladder(8),
                ("all", 1, (("g", 1, ("a", ("k", 2, ("b", "c")))),)),
                ("all", 1, (("g", 1, (("k", 2, ("b", "c")), "a")),)),
                ("all", 1, (("g", 3, (("k", 2, ("a", "b")), ("l", 3, ("c", "d")))),)),
                ("all", 1, (("g", 3, (("k", 2, ("a", "b")), ("l", 2, ("c",)))),)),
                # The fault is deep, or in the last one.
                ("all", 1, ("x", ("g", 2, (("k", 2, (("l", 1, ("a", ("m", GREAT, ("b", "c")))),)),)))),
                ("all", 1, ("x", ("y", 2, ("p", "q")), ("g", 1, ("a", "b", "c", ("k", 2, ("d", "e")))))),
                ("all", 1, (("g", 5, (("k", 2, (("l", 3, ("a", "b")),)), ("m", 3, (("n", 3, ("c", "d")),)))),)),
                # Beside one another the two are alike, but not what is in one of them.
                ("all", 1, (("g", 1, (("k", 2, (("l", 2, ("a", "b")), "c")), ("m", 4, ("d", "e")))),))):
            self.assertIs(is_even(plan), False, plan)

    def test_drawn_plans(self):
        found = {True: 0, False: 0}
        drawn = [model.small(seed) for seed in range(200)] + things.plans() + [evens.even(seed) for seed in range(50)]
        for plan in drawn:
            told = all(len({turn_by(member)[0] for member in part[2]}) == 1
                       for part in parts(plan)[1:] if not isinstance(part, str))
            self.assertIs(is_even(plan), told)
            found[told] += 1
        self.assertGreater(found[True], 40)
        self.assertGreater(found[False], 40)


def asked(test, house, name):
    """What ahead tells, the house being as it was."""
    before = picture(house)
    many = ahead(house, name)
    test.assertIs(type(many), int)
    test.assertEqual(picture(house), before)
    return many


class AheadTests(unittest.TestCase):
    def test_in_one_group(self):
        plan = ("all", 1, tuple("abcdef"))
        house = house_of(plan, rest=LOOP)
        run(house, "c a f b")
        self.assertEqual([asked(self, house, name) for name in "afb"], [0, 1, 2])
        run(house, "a f b c c")
        self.assertEqual(house.within(), "a")
        self.assertEqual([asked(self, house, name) for name in "fb"], [0, 1])
        run(house, "c")
        self.assertEqual(asked(self, house, "c"), 2)

    def test_in_two_groups(self):
        plan = ("all", 1, (("g", 3, ("a", "b")), ("k", 2, ("c", "d"))))
        house = house_of(plan, rest=LOOP)
        run(house, "a c b d")
        # a is within: b comes next. k comes behind three comings in g, of which one is past.
        self.assertEqual([asked(self, house, name) for name in "bcd"], [0, 2, 3])
        run(house, "b a a a")
        # b is within, the second of g's three; a stands anew.
        self.assertEqual([asked(self, house, name) for name in "acd"], [0, 1, 2])
        run(house, "a c b b b")
        self.assertEqual((house.within(), house.group("g")[:2]), ("a", ("a", 3)))
        # g has had its three: c and d come, and at most they do, ahead of b.
        self.assertEqual([asked(self, house, name) for name in "bcd"], [2, 0, 1])

    def test_behind_others_of_a_group_with_a_low_bound(self):
        plan = ("all", 1, (("g", 1, ("a", "b", "c")), "z"))
        house = house_of(plan, rest=LOOP)
        run(house, "a b c")
        # z, b, z ahead of c, though z doesn't stand yet.
        self.assertEqual(asked(self, house, "b"), 1)
        self.assertEqual(asked(self, house, "c"), 3)

    def test_left_places_do_not_count(self):
        plan = ("all", 1, (("g", 2, ("a", "b", "c", "d")), "y", "z"))
        house = house_of(plan, {"b": (("take", 0), TAKE), "y": (("take", 0),)}, rest=LOOP)
        run(house, "a b b c d y y y z b b")
        self.assertEqual(house.group("g")[2], (("b", False), ("c", True), ("d", True), ("b", True)))
        self.assertEqual(house.group("all")[2], (("y", False), ("z", True)))
        # c near; then z and y (y may stand anew, behind it); then d and b.
        self.assertEqual([asked(self, house, name) for name in "czdb"], [0, 1, 3, 4])

    def test_a_group_that_waits(self):
        plan = ("all", 1, (("g", 2, ("a", "b", "c")), ("k", 5, ("x",)), "z"))
        house = house_of(plan, rest=LOOP)
        run(house, "z x a b c")
        # x comes, then a and b, then the round of x and z, then c.
        self.assertEqual([asked(self, house, name) for name in "xabc"], [0, 1, 2, 5])

    def test_great_bounds(self):
        plan = ("all", GREAT, (("g", GREAT, ("a", "b", "c")), "z"))
        house = house_of(plan, rest=LOOP)
        run(house, "a z b c")
        self.assertEqual([asked(self, house, name) for name in "zbc"], [GREAT - 1, 0, 1])
        run(house, "b z a a a")
        self.assertEqual(house.group("g")[:2], ("b", 2))
        self.assertEqual([asked(self, house, name) for name in "zca"], [GREAT - 2, 0, 1])

    def test_great_bounds_in_groups_in_groups(self):
        plan = ("all", 1, (("g", 300000007, (("k", GREAT, ("a", "b")), ("l", GREAT, ("c", "d")))), "z",
                           ("h", 123456789, ("x", "y"))))
        house = house_of(plan, rest=LOOP)
        run(house, "a c d z x y")
        self.assertEqual([asked(self, house, name) for name in "cd"], [GREAT - 1, GREAT])
        whole = 300000007 * GREAT
        self.assertEqual([asked(self, house, name) for name in "zxy"], [whole - 1, whole, whole + 1])

    def test_great_bounds_around_low_ones(self):
        plan = ("all", 1, (("g", GREAT, (("k", 1, ("a", "b")), ("l", 1, ("c", "d")))), "z"))
        house = house_of(plan, rest=LOOP)
        run(house, "a c d b z")
        # l's c, then b of k, then d, then a, which doesn't stand yet.
        self.assertEqual([asked(self, house, name) for name in "cbd"], [0, 1, 2])
        self.assertEqual(asked(self, house, "z"), GREAT - 1)

    def test_low_bounds_around_great_ones(self):
        plan = ("all", 1, (("g", 1, (("k", GREAT, ("a", "b")), ("l", GREAT, ("c", "d")))),
                           ("h", 1, (("m", GREAT, ("x", "y")), ("n", GREAT, ("v", "w"))))))
        house = house_of(plan, rest=LOOP)
        run(house, "a c x v")
        # The rest of k's turn; then h's m; then l; then n; each a whole turn.
        self.assertEqual([asked(self, house, name) for name in "xcv"], [GREAT - 1, 2 * GREAT - 1, 3 * GREAT - 1])

    def test_great_rounds(self):
        # 38 hands stand ahead of the last one, bound 1, beside a group of great bound.
        names = tuple("h" + letter for letter in things.LETTERS)
        plan = ("all", 1, (("g", 1, names), ("k", GREAT, ("x", "y"))))
        house = house_of(plan, rest=LOOP)
        walk(house, names)
        for at, name in enumerate(names[1:]):
            self.assertEqual(asked(self, house, name), at + (at + 1) * GREAT)

    def test_rounds_in_rounds(self):
        # Bound 2 of two members: c's turn is the third of g, which is the second turn of g in its group, and so on.
        plan = ("all", 1, (("f", 3, (("g", 2, ("a", "b", "c")), ("k", 2, ("d", "e")))), ("h", GREAT, ("x", "y"))))
        house = house_of(plan, rest=LOOP)
        run(house, "a b c")
        # b; then k's two, then c in g's second turn, the third of f's: f is not through yet.
        self.assertEqual(asked(self, house, "c"), 3)
        other = ("all", 1, (("f", 2, plan[2][0][2]), plan[2][1]))
        house = house_of(other, rest=LOOP)
        run(house, "a b c")
        self.assertEqual(asked(self, house, "c"), 3 + GREAT)

    def houses(self):
        for seed in range(360):
            chance = random.Random(seed)
            plan = evens.even(seed, turns=(1, 2, 3, 4, 6, 9), depth=seed % 6)
            if len(hands_of(plan)) <= 20:
                yield evens.standing(plan, seed, chance.randrange(3, 60))

    def test_against_a_count_step_by_step(self):
        many, most, depths = 0, 0, {}
        for house in self.houses():
            for name in evens.waiting(house):
                told = asked(self, house, name)
                self.assertEqual(told, evens.greedy(house, name)[1])
                many, most = many + 1, max(most, told)
                depth = len(path_of(house.plan, name))
                depths[depth] = depths.get(depth, 0) + 1
        self.assertGreater(many, 500)
        self.assertGreater(most, 40)
        for depth in range(1, 7):
            self.assertGreater(depths[depth], 5)

    def test_against_the_most_of_all_scripts(self):
        many, most = 0, 0
        for seed in range(1500):
            plan = evens.even(seed, turns=(1, 2, 3, 4), depth=seed % 4)
            if len(hands_of(plan)) > 5:
                continue
            house = evens.standing(plan, seed, 3 + random.Random(seed).randrange(40))
            for name in evens.waiting(house):
                told = ahead(house, name)
                self.assertEqual(told, evens.most_ahead(house, name, 3000))
                many, most = many + 1, max(most, told)
        self.assertGreater(many, 400)
        self.assertGreater(most, 5)

    def test_never_more_come_than_were_told(self):
        met, just = 0, 0
        for seed in range(150):
            plan = evens.even(seed, depth=seed % 4)
            if len(hands_of(plan)) > 20:
                continue
            house = House(plan, model.book_of(plan, seed))
            came, looked = self.follow(house, random.Random(seed))
            met, just = met + came, just + looked
        self.assertGreater(met, 1000)
        self.assertGreater(just, 20)

    def follow(self, house, chance):
        """Draws entries; of each that stands, from each time on at which it was asked, how many others come."""
        hands, counts, met, just = hands_of(house.plan), {}, 0, 0
        for at in range(300):
            for name in evens.waiting(house):
                if at % 7 == 0 or name not in counts:
                    counts.setdefault(name, []).append([ahead(house, name), 0])
            events = house.step(chance.choice(hands))
            for event in events:
                if event[0] == "left":
                    counts.pop(event[1], None)
                if event[0] == "came":
                    for told, many in counts.pop(event[1], ()):
                        self.assertLessEqual(many, told)
                        met, just = met + 1, just + (many == told > 0)
                    for known in counts.values():
                        for row in known:
                            row[1] += 1
        return met, just


class RefusedTests(unittest.TestCase):
    def refused(self, known, house, name):
        before = picture(house)
        for call in (ahead, worst):
            rooms.refused(self, known, call, house, name)
            self.assertEqual(picture(house), before)

    def houses(self):
        for plan in (EVEN, ODD):
            empty, full = house_of(plan, rest=LOOP), house_of(plan, rest=LOOP)
            run(full, "ann bob dee")
            yield empty
            yield full

    def test_no_name(self):
        for house in self.houses():
            before = picture(house)
            for name in list(groups_of(house.plan)) + rooms.no_names():
                for call in (ahead, worst):
                    rooms.named(self, call, house, name)
            self.assertEqual(picture(house), before)

    def test_not_waiting(self):
        # Uneven ones, too: NotWaiting is named first.
        for house in self.houses():
            for name in hands_of(house.plan):
                if house.hand(name)[2] in ("out", "within"):
                    self.refused(NotWaiting, house, name)

    def test_uneven(self):
        house = house_of(ODD, rest=LOOP)
        run(house, "ann bob dee dee")
        self.assertEqual([house.hand(name)[2] for name in ("bob", "dee")], ["waits", "waits"])
        for name in ("bob", "dee"):
            self.refused(Uneven, house, name)
        run(house, "cy")
        self.assertEqual(house.hand("cy")[2], "loose")
        self.refused(Uneven, house, "cy")

    def test_loose_and_waiting_ones_are_told(self):
        house = house_of(EVEN, rest=LOOP)
        run(house, "ann bob dee dee eve eve")
        self.assertEqual([house.hand(name)[2] for name in ("bob", "dee", "eve")], ["loose", "waits", "waits"])
        for name in ("bob", "dee", "eve"):
            self.assertIsInstance(ahead(house, name), int)
            self.assertIsInstance(worst(house, name), tuple)


class EndlessTests(unittest.TestCase):
    def houses(self):
        for plan, book, script in list(model.cases())[::3]:
            house = House(plan, book)
            for at in (0, 5, 40):
                walk(house, script[:at])
                yield house

    def test_what_it_has(self):
        found = {}
        for house in self.houses():
            before = picture(house)
            other = endless(house)
            self.assertIs(type(other), House)
            self.assertEqual(other.plan, house.plan)
            self.assertEqual(other.book, tuple((name, LOOP) for name in sorted(hands_of(house.plan))))
            for name in hands_of(house.plan):
                row, last, how, looks = house.hand(name)
                self.assertEqual(other.hand(name), (1 if how == "within" else 0, last, how, None))
                found[how, looks is None] = found.get((how, looks is None), 0) + 1
            for name in groups_of(house.plan):
                self.assertEqual(other.group(name), house.group(name))
            self.assertEqual(other.within(), house.within())
            self.assertEqual(picture(house), before)
        for key in (("out", True), ("within", True), ("loose", True), ("loose", False), ("waits", False)):
            self.assertGreater(found[key], 10)

    def test_a_house_of_its_own(self):
        for house in self.houses():
            before = picture(house)
            other = endless(house)
            pictured = picture(other)
            walk(other, hands_of(house.plan) * 3)
            self.assertEqual(picture(house), before)
            other = endless(house)
            walk(house, hands_of(house.plan) * 3)
            self.assertEqual(picture(other), pictured)

    def test_of_itself(self):
        for house in self.houses():
            self.assertEqual(endless(endless(house)), endless(house))

    def test_steps(self):
        house = house_of(EVEN, {"ann": (("say", 1), ("take", 3), ("say", 5), LET), "bob": (("take", 0), ("say", 7))})
        run(house, "ann ann ann bob bob")
        other = endless(house)
        self.assertEqual(other.step("bob"), (("idle", "bob", "waits"),))
        self.assertEqual(other.step("ann"), (("let", "ann"), ("handed", "bob", "deep", "near"), ("came", "bob")))
        self.assertEqual(other.step("ann"), (("went", "ann", 0),))
        self.assertEqual(other.step("ann"), (("stood", "ann", "deep"),))


class WorstTests(unittest.TestCase):
    def test_by_hand(self):
        plan = ("all", 1, (("g", 2, ("b", "c")), "a"))
        house = house_of(plan, rest=LOOP)
        run(house, "c a")
        # a is loose; b is out, and loose then; c lets go, b comes; c goes to its row 0, takes, is tied; b lets go.
        self.assertEqual(worst(house, "a"), tuple("abbccccb"))
        self.assertEqual(ahead(house, "a"), 1)
        run(house, "b")
        self.assertEqual(worst(house, "b"), tuple("abc"))
        self.assertEqual(ahead(house, "b"), 0)

    def test_the_entries(self):
        many, longest = 0, 0
        for seed in range(240):
            plan = evens.even(seed, depth=seed % 5)
            if len(hands_of(plan)) > 16:
                continue
            house = evens.standing(plan, seed, random.Random(seed).randrange(3, 40))
            for name in evens.waiting(house):
                self.look(house, name)
                many, longest = many + 1, max(longest, len(worst(house, name)))
        self.assertGreater(many, 200)
        self.assertGreater(longest, 60)

    def look(self, house, name):
        before = picture(house)
        script = worst(house, name)
        self.assertEqual(picture(house), before)
        self.assertIs(type(script), tuple)
        self.assertEqual(script, evens.greedy(house, name)[0])
        events = walk(endless(house), script)
        self.assertEqual([event for step in events for event in step if event[0] == "idle"], [])
        self.assertEqual(events[-1][-1], ("came", name))
        came = comings(events)
        self.assertEqual(came.count(name), 1)
        self.assertEqual(len(came) - 1, ahead(house, name))

    def test_some_thousand_entries(self):
        plan = ("all", 1, (("g", 700, ("a", "b", "c")), "z"))
        house = house_of(plan, rest=LOOP)
        run(house, "a z")
        events = walk(endless(house), worst(house, "z"))
        self.assertEqual(len(comings(events)) - 1, 699)
        self.assertEqual(ahead(house, "z"), 699)


if __name__ == "__main__":
    unittest.main()
