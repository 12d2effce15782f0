"""What the document's [3] promises over the whole program, walked by drawn plans, books and scripts."""

import random
import unittest

import evens
import model
from nearlocks.counting import ahead, endless, is_even, worst
from nearlocks.desk import Desk
from nearlocks.errors import LockError
from nearlocks.houses import House
from nearlocks.logs import Log
from nearlocks.orders import order, order_by
from nearlocks.plans import groups_of, hands_of, path_of
from nearlocks.reaching import ends, reached
from nearlocks.reading import read_book, read_plan
from nearlocks.scripts import stuck, walk
from nearlocks.showing import show_book, show_plan
from nearlocks.tales import comings, shows_plain
from nearlocks.touching import meet
from nearlocks.ways import greatest, orders, ways
from test_reaching import drawn_houses


def houses(many=80):
    """Houses in the midst of a walk, of even plans and others."""
    for seed in range(many):
        chance = random.Random(seed)
        plan = evens.even(seed, depth=seed % 4) if seed % 2 else model.small(seed)
        house = House(plan, model.book_of(plan, seed))
        for _ in range(4):
            walk(house, tuple(chance.choice(hands_of(plan)) for _ in range(chance.randrange(20))))
            yield house.twin()


class HouseTests(unittest.TestCase):
    """(a), (b) and the tale of (g), asked of the house alone."""

    def look(self, house):
        plan = house.plan
        hows = [house.hand(name)[2] for name in hands_of(plan)]
        self.assertLessEqual(hows.count("within"), 1)
        groups = {name: house.group(name) for name in groups_of(plan)}
        for name in hands_of(plan) + groups_of(plan)[1:]:
            holder, count, places = groups[path_of(plan, name)[0]]
            many = (holder == name) + places.count((name, True))
            stands = groups[name][0] is not None if name in groups else house.hand(name)[2] != "out"
            self.assertEqual(many, 1 if stands else 0, (name, str(house)))
            if name not in groups and house.hand(name)[2] == "loose":
                self.assertIn((name, True), places)
        for name in groups:
            self.look_at_group(house, groups, name)

    def look_at_group(self, house, groups, name):
        holder, count, places = groups[name]
        if holder is None:
            self.assertEqual((count, places), (0, ()))
        inside = house.within()
        has_lock = inside is not None and name in path_of(house.plan, inside)
        if not has_lock:
            self.assertEqual(count, 0)
        else:
            self.assertGreaterEqual(count, 1)
            self.assertLessEqual(count, model.bounds(house.plan)[name])
            if path_of(house.plan, name) == ():
                self.assertEqual(count, 1)

    def test_each_house(self):
        for plan, book, script in model.cases():
            house = House(plan, book)
            self.look(house)
            for name in script[:200]:
                house.step(name)
                self.look(house)

    def test_the_first_that_stands_is_handed_the_lock(self):
        for plan, book, script in model.cases():
            house = House(plan, book)
            for name in script:
                rows = {group: house.group(group)[2] for group in groups_of(plan)}
                for event in house.step(name):
                    if event[0] == "handed":
                        self.handed(house, rows, *event[1:])
                    if event[0] == "passed":
                        self.assertEqual(rows[event[2]][0], (event[1], False))
                        rows[event[2]] = rows[event[2]][1:]

    def handed(self, house, rows, member, group, reason):
        self.assertEqual(rows[group][0], (member, True))
        # One that hands over stands last in the row around it, and may be the first there at once.
        if reason == "over":
            around = path_of(house.plan, group)[0]
            rows[around] += ((group, True),)

    def test_the_tale_is_a_plain_locks(self):
        many = 0
        for plan, book, script in model.cases():
            house = House(plan, book)
            at = 0
            while at < len(script):
                piece = script[at:at + 37]
                empty = house.within() is None
                events = walk(house, piece)
                if empty:
                    self.assertIs(shows_plain(events), True)
                    many += len(comings(events))
                at += 37
        self.assertGreater(many, 1000)

    def test_the_same_script_is_told_the_same(self):
        for plan, book, script in model.cases():
            one, other = House(plan, book), House(plan, book)
            self.assertEqual(walk(one, script), walk(other, script))
            self.assertEqual(one, other)


class WholeTests(unittest.TestCase):
    def test_c_at_most_so_many_come_ahead(self):
        many = 0
        for seed, house in enumerate(houses()):
            if is_even(house.plan):
                for name in evens.waiting(house):
                    told = ahead(house, name)
                    self.assertEqual(len(comings(walk(endless(house), worst(house, name)))), told + 1)
                    many += self.follow(house.twin(), name, told, random.Random(seed))
        self.assertGreater(many, 100)

    def follow(self, house, name, told, chance):
        """Whether it comes within by the entries that are drawn; ahead of that no more than told."""
        came = ()
        for _ in range(150):
            entry = chance.choice(hands_of(house.plan))
            events = house.step(entry)
            if ("left", name) in events:
                return False
            came += comings((events,))
            if name in came:
                self.assertLessEqual(came.index(name), told)
                return True
            self.assertLessEqual(len(came), told)
        return False

    def test_d_those_that_stand_come_in_order(self):
        many = 0
        for house in houses():
            other, came = endless(house), ()
            for name in hands_of(house.plan):
                if other.hand(name)[2] == "loose":
                    other.step(name)
            while other.within() is not None:
                came += comings((other.step(other.within()),))
            self.assertEqual(order(house), came)
            for bound in (1, 2, 999999999):
                bounds = tuple(bound for name in groups_of(house.plan))
                self.assertEqual(sorted(order_by(house, bounds)), sorted(came))
            many += len(came)
        self.assertGreater(many, 200)

    def test_e_steps_that_do_not_meet_can_be_exchanged(self):
        many = 0
        for seed, house in enumerate(houses()):
            chance = random.Random(seed)
            for _ in range(20):
                one, other = chance.choice(hands_of(house.plan)), chance.choice(hands_of(house.plan))
                if not meet(house, one, other):
                    first, second = Log(house), Log(house)
                    events = first.walk((one, other))
                    self.assertEqual(second.walk((other, one)), events[::-1])
                    self.assertEqual(first.house(), second.house())
                    many += 1
        self.assertGreater(many, 1000)

    def test_f_ways_are_counted_step_by_step(self):
        many = 0
        for house in drawn_houses():
            try:
                told = ways(house, most=150)
            except LockError:
                continue
            many += 1
            moves = []
            for name in hands_of(house.plan):
                other = house.twin()
                events = other.step(name)
                if events[0][0] != "idle":
                    moves.append((comings((events,)), other))
            self.assertEqual(told, sum(ways(other) for came, other in moves) if moves else 1)
            found = {} if moves else {(): 1}
            for came, other in moves:
                for rest, number in orders(other):
                    found[came + rest] = found.get(came + rest, 0) + number
            self.assertEqual(orders(house), tuple(sorted(found.items())))
            self.assertLessEqual({text for text, whys in ends(house)}, set(reached(house)))
            self.assertEqual(stuck(house) is None, bool(moves))
        self.assertGreater(many, 60)

    def test_f_no_more_come_behind_a_taking_than_greatest_tells(self):
        many = 0
        for seed, house in enumerate(drawn_houses()):
            for name in hands_of(house.plan):
                try:
                    told = greatest(house, name, most=150)
                except LockError:
                    continue
                other, chance = house.twin(), random.Random(seed)
                for _ in range(30):
                    events = other.step(chance.choice(hands_of(house.plan)))
                    if events[0][0] in ("stood", "held") and events[0][1] == name and ("came", name) not in events:
                        self.assertIsNotNone(told)
                        many += 1
                        self.follow(other.twin(), name, told, chance)
        self.assertGreater(many, 15)

    def test_g_what_is_written_is_read_as_it_was(self):
        for house in houses():
            self.assertEqual(read_plan(show_plan(house.plan)), house.plan)
            self.assertEqual(read_book(house.plan, show_book(house.book)), house.book)

    def test_g_the_desk_answers_as_a_house(self):
        for seed, house in enumerate(houses(40)):
            house = House(house.plan, house.book)
            desk, chance = Desk(), random.Random(seed)
            desk.say_all(("plan " + show_plan(house.plan).replace("\n", " ; "),
                          "book " + show_book(house.book).replace("\n", " ; ")))
            for _ in range(15):
                names = tuple(chance.choice(hands_of(house.plan)) for _ in range(chance.randrange(1, 5)))
                lines = tuple("step " + name for name in names)
                if chance.randrange(3) == 0:
                    bad = chance.choice(["step " + house.plan[0], "", "plan", "book x"])
                    with self.assertRaises(LockError):
                        desk.say_all(lines + (bad,), keep=False)
                else:
                    answers = desk.say_all(lines, keep=False)
                    self.assertEqual(answers, tuple(" ; ".join(" ".join(map(str, event)) for event in events)
                                                    for events in walk(house, names)))
                told = [desk.say("hand " + name) for name in hands_of(house.plan)]
                told += [desk.say("group " + name) for name in groups_of(house.plan)]
                self.assertEqual("\n".join(told), str(house))


if __name__ == "__main__":
    unittest.main()
