"""Random walks: each step against another telling of the document, and what the whole promises of every house."""

import unittest

import model
from nearlocks.houses import House
from nearlocks.plans import groups_of, hands_of, path_of
from nearlocks.scripts import stuck, walk, why
from nearlocks.tales import comings, shows_plain


def text_of(other):
    rows = []
    for name, hand in other.hands.items():
        looks = "-" if hand.looks is None else str(hand.looks)
        rows.append(" ".join(["hand", name, str(hand.row), str(hand.last), hand.how, looks]))
    for name, group in other.groups.items():
        places = ",".join([one.name + ("" if stands else "!") for one, stands in group.places]) or "-"
        rows.append(" ".join(["group", name, group.holder.name if group.holder else "-", str(group.count), places]))
    return "\n".join(rows)


class ModelTests(unittest.TestCase):
    def same(self, house, other):
        self.assertEqual({name: house.hand(name) for name in hands_of(house.plan)},
                         {name: hand.told() for name, hand in other.hands.items()})
        self.assertEqual({name: house.group(name) for name in groups_of(house.plan)},
                         {name: group.told() for name, group in other.groups.items()})
        self.assertEqual([house.within()], other.within() or [None])
        self.assertEqual(len(house), len([1 for hand in other.hands.values() if hand.how != "out"]))

    def test_each_step(self):
        words = {}
        for plan, book, script in model.cases():
            house, other = House(plan, book), model.Model(plan, book)
            for name in script:
                reason, before = other.why(name), str(house)
                self.assertEqual(why(house, name), reason)
                self.assertEqual(str(house), before)
                events = house.step(name)
                self.assertEqual(events, other.step(name))
                self.same(house, other)
                if reason:
                    self.assertEqual(events, (("idle", name, reason),))
                    self.assertEqual(str(house), before)
                for event in events:
                    words[(event[0],) + event[3:]] = words.get((event[0],) + event[3:], 0) + 1
                    words[event[0]] = words.get(event[0], 0) + 1
            self.assertEqual(str(house), text_of(other))
        # The walks are worth something only where all kinds of events come about, and often.
        for word in ("idle", "tied", "looked", "left", "said", "went", "lack", "stood", "held", "came", "let", "passed",
                     "bare", "no", ("handed", "near"), ("handed", "over"), ("handed", "left")):
            self.assertGreater(words.get(word, 0), 100, word)

    def test_stuck(self):
        found = {True: 0, False: 0}
        for plan, book, script in model.cases():
            # Without a way back, most walks come to an end at which all idle.
            book = tuple((name, tuple(row for row in rows if row[0] not in ("goto", "if"))) for name, rows in book)
            house, other = House(plan, book), model.Model(plan, book)
            for at, name in enumerate(script):
                house.step(name)
                other.step(name)
                if at % 10 == 0:
                    told = tuple((hand, other.why(hand)) for hand in hands_of(plan))
                    whole = None if None in dict(told).values() else told
                    self.assertEqual(stuck(house), whole)
                    found[whole is None] += 1
        self.assertGreater(found[True], 20)
        self.assertGreater(found[False], 20)


class PromiseTests(unittest.TestCase):
    """What [3] promises of every house, asked of the house alone."""

    def look(self, house):
        plan = house.plan
        hows = [house.hand(name)[2] for name in hands_of(plan)]
        self.assertLessEqual(hows.count("within"), 1)
        groups = {name: house.group(name) for name in groups_of(plan)}
        for name in hands_of(plan) + groups_of(plan)[1:]:
            holder, count, places = groups[path_of(plan, name)[0]]
            many = (holder == name) + places.count((name, True))
            stands = groups[name][0] is not None if name in groups else house.hand(name)[2] != "out"
            self.assertEqual(many, 1 if stands else 0, (name, str(house)))
            if name not in groups and house.hand(name)[2] == "loose":
                self.assertIn((name, True), places)
        for name in groups:
            self.look_at_group(house, groups, name)

    def look_at_group(self, house, groups, name):
        holder, count, places = groups[name]
        if holder is None:
            self.assertEqual((count, places), (0, ()))
        inside = house.within()
        has_lock = inside is not None and name in path_of(house.plan, inside)
        if not has_lock:
            self.assertEqual(count, 0)
        else:
            self.assertGreaterEqual(count, 1)
            self.assertLessEqual(count, model.bounds(house.plan)[name])
            if path_of(house.plan, name) == ():
                self.assertEqual(count, 1)

    def test_each_house(self):
        for plan, book, script in model.cases():
            house = House(plan, book)
            self.look(house)
            for name in script[:200]:
                house.step(name)
                self.look(house)

    def test_the_first_that_stands_is_handed_the_lock(self):
        for plan, book, script in model.cases():
            house = House(plan, book)
            for name in script:
                rows = {group: house.group(group)[2] for group in groups_of(plan)}
                for event in house.step(name):
                    if event[0] == "handed":
                        self.handed(house, rows, *event[1:])
                    if event[0] == "passed":
                        self.assertEqual(rows[event[2]][0], (event[1], False))
                        rows[event[2]] = rows[event[2]][1:]

    def handed(self, house, rows, member, group, reason):
        self.assertEqual(rows[group][0], (member, True))
        # One that hands over stands last in the row around it, and may be the first there at once.
        if reason == "over":
            around = path_of(house.plan, group)[0]
            rows[around] += ((group, True),)

    def test_the_tale_is_a_plain_locks(self):
        many = 0
        for plan, book, script in model.cases():
            house = House(plan, book)
            at = 0
            while at < len(script):
                piece = script[at:at + 37]
                empty = house.within() is None
                events = walk(house, piece)
                if empty:
                    self.assertIs(shows_plain(events), True)
                    many += len(comings(events))
                at += 37
        self.assertGreater(many, 1000)

    def test_the_same_script_is_told_the_same(self):
        for plan, book, script in model.cases():
            one, other = House(plan, book), House(plan, book)
            self.assertEqual(walk(one, script), walk(other, script))
            self.assertEqual(one, other)


if __name__ == "__main__":
    unittest.main()
