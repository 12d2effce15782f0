"""Even plans, houses of them in which hands stand, and how many come, counted in other ways than the program does."""

import random

import model
import things
from nearlocks.houses import House
from nearlocks.plans import groups_of, hands_of, is_plan, path_of
from rooms import LET, LOOP


def divisors(number):
    return [one for one in range(1, number + 1) if number % one == 0]


def member(chance, left, turn, depth):
    """A hand or a group of this turn, at most so many groups within one another, of the names that are left."""
    if turn == 1 and (depth == 0 or len(left) < 8 or chance.randrange(3) == 0):
        return left.pop()
    if depth == 0:
        return (left.pop(), turn, (left.pop(), left.pop()))
    if turn == 1 and chance.randrange(3) == 0:
        # One hand in all, whatever the bounds.
        return (left.pop(), chance.choice([1, 2, 9]), (member_of_one(chance, left, depth - 1),))
    bound = chance.choice(divisors(turn))
    members = [member(chance, left, turn // bound, depth - 1) for _ in range(chance.choice([1, 2, 2]))]
    if len(members) == 1 and (isinstance(members[0], str) or len(hands_of(members[0])) == 1):
        members.append(left.pop() if turn == bound else member(chance, left, turn // bound, 0))
    return (left.pop(), bound, tuple(members))


def member_of_one(chance, left, depth):
    if depth <= 0 or chance.randrange(2):
        return left.pop()
    return (left.pop(), chance.choice([1, 3]), (member_of_one(chance, left, depth - 1),))


def even(seed, turns=(1, 2, 3, 4, 6), depth=2, many=3):
    """An even plan; the whole's members may be unlike."""
    chance = random.Random(seed)
    left = things.names(150)
    chance.shuffle(left)
    members = [member(chance, left, chance.choice(turns), chance.randrange(depth + 1))
               for _ in range(chance.randrange(1, many + 1))]
    plan = (left.pop(), chance.choice([1, 2, 999999999]), tuple(members))
    assert is_plan(plan)
    return plan


def standing(plan, seed, many):
    """A house of this plan after so many drawn steps, in which some gave up."""
    chance = random.Random(seed)
    house = House(plan, tuple((name, (("take", chance.choice([None, None, 0, 1])), LET, ("goto", 0)))
                              for name in sorted(hands_of(plan))))
    hands = hands_of(plan)
    for _ in range(many):
        name = chance.choice(hands)
        if house.within() != name or chance.randrange(2):
            house.step(name)
    return house


def depth_of(plan):
    """How many groups there are within one another."""
    return 0 if isinstance(plan, str) else 1 + max(depth_of(member) for member in plan[2])


def waiting(house):
    return [name for name in hands_of(house.plan) if house.hand(name)[2] in ("loose", "waits")]


def modelled(house):
    """The other telling of a house, at which all take and let go without end."""
    other = model.Model(house.plan, tuple((name, LOOP) for name, program in house.book))
    known = {**other.hands, **other.groups}
    for name, hand in other.hands.items():
        row, hand.last, hand.how, looks = house.hand(name)
        hand.row = int(hand.how == "within")
    for name, group in other.groups.items():
        holder, group.count, places = house.group(name)
        group.holder = known.get(holder)
        group.places = [(known[one], stands) for one, stands in places]
    return other


def next_entry(other):
    """The entry that the document's [19] tells: the first of the loose ones, of those out, or who is within."""
    hows = {how: sorted(one for one, hand in other.hands.items() if hand.how == how)
            for how in ("loose", "out", "within")}
    return (hows["loose"] + hows["out"] + hows["within"])[0]


def greedy(house, name):
    """The script of the document's [19], and how many others come by it."""
    other = modelled(house)
    script, came = [], []
    while name not in came:
        script.append(next_entry(other))
        events = other.step(script[-1])
        assert events[0][0] != "idle"
        came += [event[1] for event in events if event[0] == "came"]
    return tuple(script), len(came) - 1


def comings_without_end(plan, many):
    """Who comes, so many, by such entries from a house in which all are out."""
    other = model.Model(plan, tuple((name, LOOP) for name in sorted(hands_of(plan))))
    came = []
    while len(came) < many:
        came += [event[1] for event in other.step(next_entry(other)) if event[0] == "came"]
    return came


class Bare:
    """A house without what hands have: of each group the holder, the count and those that stand; changed in place."""

    def __init__(self, plan, state):
        self.plan, self.state = plan, dict(state)

    def stand(self, member):
        for group in path_of(self.plan, member):
            holder, count, row = self.state[group]
            if holder is not None:
                self.state[group] = (holder, count, row + (member,))
                return
            self.state[group] = (member, count, row)
            member = group

    def leave(self, member):
        for group in path_of(self.plan, member):
            holder, count, row = self.state[group]
            if member in row:
                self.state[group] = (holder, count, tuple(one for one in row if one != member))
                return
            if row:
                self.state[group] = (row[0], count, row[1:])
                return
            self.state[group] = (None, 0, ())
            member = group

    def let(self, hand):
        bounds = model.bounds(self.plan)
        for group in path_of(self.plan, hand):
            holder, count, row = self.state[group]
            whole = group == self.plan[0]
            if row and (whole or count < bounds[group]):
                self.state[group] = (row[0], count + (not whole), row[1:])
                self.lock(row[0])
                return
            if row:
                self.state[group] = (row[0], 0, row[1:])
                around = path_of(self.plan, group)[0]
                above = self.state[around]
                self.state[around] = above[:2] + (above[2] + (group,),)
            else:
                self.state[group] = (None, 0, ())

    def lock(self, member):
        while member in self.state:
            self.state[member] = (self.state[member][0], 1, self.state[member][2])
            member = self.state[member][0]

    def within(self):
        member = self.plan[0]
        while member in self.state:
            member = self.state[member][0]
        return member

    def stands(self, hand):
        holder, count, row = self.state[path_of(self.plan, hand)[0]]
        return hand == holder or hand in row


def key_of(state):
    return tuple(sorted(state.items()))


def most_ahead(house, name, limit):
    """The most others that come ahead of name, of all scripts, where others take, wait, leave and let go as they like.

    Goes through all houses that come, by how many have come so far; None where more than limit houses come up.
    """
    plan, hands = house.plan, hands_of(house.plan)
    start = {group: (*house.group(group)[:2], tuple(one for one, stands in house.group(group)[2] if stands))
             for group in groups_of(plan)}
    layer, many, most = {key_of(start)}, 0, None
    while layer:
        following, left = set(), list(layer)
        while left:
            state = dict(left.pop())
            inside = Bare(plan, state).within()
            for hand in hands:
                other = Bare(plan, state)
                if hand == inside:
                    other.let(hand)
                    if other.within() == name:
                        most = many
                    else:
                        following.add(key_of(other.state))
                    continue
                if hand == name:
                    continue
                if other.stands(hand):
                    other.leave(hand)
                else:
                    other.stand(hand)
                if key_of(other.state) not in layer:
                    layer.add(key_of(other.state))
                    left.append(key_of(other.state))
            if len(layer) + len(following) > limit:
                return None
        layer, many = following, many + 1
    return most
