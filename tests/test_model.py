"""Random walks: each step against another telling of the document."""

import unittest

import model
from nearlocks.houses import House
from nearlocks.plans import groups_of, hands_of
from nearlocks.scripts import stuck, why


def text_of(other):
    rows = []
    for name, hand in other.hands.items():
        looks = "-" if hand.looks is None else str(hand.looks)
        rows.append(" ".join(["hand", name, str(hand.row), str(hand.last), hand.how, looks]))
    for name, group in other.groups.items():
        places = ",".join([one.name + ("" if stands else "!") for one, stands in group.places]) or "-"
        rows.append(" ".join(["group", name, group.holder.name if group.holder else "-", str(group.count), places]))
    return "\n".join(rows)


class ModelTests(unittest.TestCase):
    def same(self, house, other):
        self.assertEqual({name: house.hand(name) for name in hands_of(house.plan)},
                         {name: hand.told() for name, hand in other.hands.items()})
        self.assertEqual({name: house.group(name) for name in groups_of(house.plan)},
                         {name: group.told() for name, group in other.groups.items()})
        self.assertEqual([house.within()], other.within() or [None])
        self.assertEqual(len(house), len([1 for hand in other.hands.values() if hand.how != "out"]))

    def test_each_step(self):
        words = {}
        for plan, book, script in model.cases():
            house, other = House(plan, book), model.Model(plan, book)
            for name in script:
                reason, before = other.why(name), str(house)
                self.assertEqual(why(house, name), reason)
                self.assertEqual(str(house), before)
                events = house.step(name)
                self.assertEqual(events, other.step(name))
                self.same(house, other)
                if reason:
                    self.assertEqual(events, (("idle", name, reason),))
                    self.assertEqual(str(house), before)
                for event in events:
                    words[(event[0],) + event[3:]] = words.get((event[0],) + event[3:], 0) + 1
                    words[event[0]] = words.get(event[0], 0) + 1
            self.assertEqual(str(house), text_of(other))
        # The walks are worth something only where all kinds of events come about, and often.
        for word in ("idle", "tied", "looked", "left", "said", "went", "lack", "stood", "held", "came", "let", "passed",
                     "bare", "no", ("handed", "near"), ("handed", "over"), ("handed", "left")):
            self.assertGreater(words.get(word, 0), 100, word)

    def test_stuck(self):
        found = {True: 0, False: 0}
        for plan, book, script in model.cases():
            # Without a way back, most walks come to an end at which all idle.
            book = tuple((name, tuple(row for row in rows if row[0] not in ("goto", "if"))) for name, rows in book)
            house, other = House(plan, book), model.Model(plan, book)
            for at, name in enumerate(script):
                house.step(name)
                other.step(name)
                if at % 10 == 0:
                    told = tuple((hand, other.why(hand)) for hand in hands_of(plan))
                    whole = None if None in dict(told).values() else told
                    self.assertEqual(stuck(house), whole)
                    found[whole is None] += 1
        self.assertGreater(found[True], 20)
        self.assertGreater(found[False], 20)


if __name__ == "__main__":
    unittest.main()
