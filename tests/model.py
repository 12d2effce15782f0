"""A house once more, told in another way than the program does: a tree of objects that are changed in place.

Whether a step is idle is asked here ahead of any change, by a look along the rows that it would let go.
"""

import random

import things

LOOP = (("take", None), ("let",), ("goto", 0))


class Hand:
    def __init__(self, name, around, program):
        self.name, self.around, self.program = name, around, program
        self.row, self.last, self.how, self.looks = 0, 0, "out", None

    def told(self):
        return (self.row, self.last, self.how, self.looks)


class Group:
    def __init__(self, name, bound, around):
        self.name, self.bound, self.around = name, bound, around
        self.holder, self.count, self.places = None, 0, []

    def told(self):
        return (self.holder and self.holder.name, self.count, tuple((one.name, stands) for one, stands in self.places))

    def standing(self):
        return [one for one, stands in self.places if stands]


class Model:
    def __init__(self, plan, book):
        self.hands, self.groups, self.programs = {}, {}, dict(book)
        self.whole = self.build(plan, None)

    def build(self, thing, around):
        if isinstance(thing, str):
            self.hands[thing] = Hand(thing, around, self.programs[thing])
            return None
        group = self.groups[thing[0]] = Group(thing[0], thing[1], around)
        for member in thing[2]:
            self.build(member, group)
        return group

    def within(self):
        return [name for name, hand in self.hands.items() if hand.how == "within"]

    def why(self, name):
        hand = self.hands[name]
        firsts = []
        if hand.how == "waits":
            if hand.looks is None:
                return "waits"
            if hand.looks == 0:
                firsts = self.firsts_of_leaving(hand)
        elif hand.how != "loose":
            if hand.row >= len(hand.program):
                return "ended"
            if hand.how == "within" and hand.program[hand.row] == ("let",):
                firsts = self.firsts_of_letting(hand)
        return "ties" if any(isinstance(one, Hand) and one.how == "loose" for one in firsts) else None

    def firsts_of_letting(self, hand):
        found, group, coming = [], hand.around, []
        while group is not None:
            stands = group.standing() + coming
            coming = []
            if stands:
                found.append(stands[0])
                if group.around is None or group.count < group.bound:
                    break
                coming = [group]
            group = group.around
        return found

    def firsts_of_leaving(self, hand):
        member = hand
        while member.around.holder is member:
            if member.around.standing():
                return [member.around.standing()[0]]
            member = member.around
        return []

    def step(self, name):
        hand, reason = self.hands[name], self.why(name)
        self.events = []
        if reason:
            return (("idle", name, reason),)
        if hand.how == "loose":
            hand.how = "waits"
            self.events.append(("tied", name))
        elif hand.how == "waits" and hand.looks > 0:
            hand.looks -= 1
            self.events.append(("looked", name))
        elif hand.how == "waits":
            hand.how, hand.looks, hand.row, hand.last = "out", None, hand.row + 1, 0
            self.leave(hand)
        else:
            self.row(hand, *hand.program[hand.row])
        return tuple(self.events)

    def row(self, hand, word, *rest):
        name, inside = hand.name, hand.how == "within"
        if word == "take" and not inside or word == "try" and not inside and self.whole.holder is None:
            hand.how, hand.looks = "waits", rest[0] if rest else None
            self.stand(hand)
            return
        if word == "goto" or word == "if":
            hand.row = rest[-1] if word == "goto" or rest[0] == hand.last else hand.row + 1
            self.events.append(("went", name, hand.row))
            return
        hand.row += 1
        hand.last = 0
        if word == "say":
            self.events.append(("said", name, rest[0]))
        elif word == "try" and not inside:
            self.events.append(("no", name))
        elif word == "let" and inside:
            self.events.append(("let", name))
            hand.how = "out"
            self.release(hand.around)
        else:
            hand.last = -1
            self.events.append(("lack", name))

    def stand(self, member):
        group = member.around
        if group is None:
            self.lock(member)
        elif group.holder is not None:
            group.places.append((member, True))
            self.events.append(("stood", member.name, group.name))
            if isinstance(member, Hand):
                member.how = "loose"
        else:
            group.holder = member
            self.events.append(("held", member.name, group.name))
            self.stand(group)

    def lock(self, member):
        if isinstance(member, Group):
            member.count = 1
            self.lock(member.holder)
            return
        member.how, member.looks, member.row, member.last = "within", None, member.row + 1, 1
        self.events.append(("came", member.name))

    def clear_front(self, group):
        while group.places and not group.places[0][1]:
            self.events.append(("passed", group.places.pop(0)[0].name, group.name))

    def next_holder(self, group, reason):
        group.holder = group.places.pop(0)[0]
        self.events.append(("handed", group.holder.name, group.name, reason))

    def empty(self, group):
        group.holder, group.count = None, 0
        self.events.append(("bare", group.name))

    def release(self, group):
        if group is None:
            return
        self.clear_front(group)
        if not group.places:
            self.empty(group)
            self.release(group.around)
        elif group.around is None:
            self.next_holder(group, "near")
            self.lock(group.holder)
        elif group.count < group.bound:
            self.next_holder(group, "near")
            group.count += 1
            self.lock(group.holder)
        else:
            self.next_holder(group, "over")
            group.count = 0
            group.around.places.append((group, True))
            self.release(group.around)

    def leave(self, member):
        group = member.around
        self.events.append(("left", member.name))
        if group.holder is not member:
            at = group.places.index((member, True))
            group.places[at] = (member, False)
            return
        self.clear_front(group)
        if group.places:
            self.next_holder(group, "left")
        else:
            self.empty(group)
            self.leave(group)


def row_of(chance, many):
    """A row of a program of so many rows, by a seeded chance; those of the lock most often."""
    return chance.choice([
        ("take", None), ("take", None), ("take", chance.randrange(3)), ("take", chance.randrange(3)), ("try",),
        ("let",), ("let",), ("let",), ("say", chance.randrange(100)), ("goto", chance.randrange(many)),
        ("if", chance.choice([-1, 0, 1]), chance.randrange(many))])


def program_of(chance):
    kind = chance.randrange(5)
    if kind == 0:
        return LOOP
    if kind == 1:
        return (("take", chance.randrange(4)), ("if", 0, 0), ("let",), ("goto", 0))
    many = chance.randrange(1, 9)
    rows = [row_of(chance, many + 1) for _ in range(many)] + [("goto", 0)]
    return tuple(rows)


def book_of(plan, seed):
    chance = random.Random(seed)
    found = [thing for thing in flat(plan)]
    return tuple((name, program_of(chance)) for name in sorted(found))


def flat(thing):
    """The hands of a plan, from the left."""
    return [thing] if isinstance(thing, str) else [name for member in thing[2] for name in flat(member)]


def bounds(thing):
    """A dict of the bounds of all groups."""
    if isinstance(thing, str):
        return {}
    found = {thing[0]: thing[1]}
    for member in thing[2]:
        found.update(bounds(member))
    return found


def small(seed):
    """A plan of few hands with low bounds, so that rows are let go often, at several levels."""
    chance = random.Random(seed)
    left = things.names(26)
    chance.shuffle(left)

    def group(level):
        name, bound = left.pop(), chance.choice([1, 1, 2, 2, 3, 9])
        members = [left.pop() for _ in range(chance.randrange(1, 3))]
        while level < 4 and len(left) > 18 and chance.randrange(3):
            members.append(group(level + 1))
        chance.shuffle(members)
        return (name, bound, tuple(members))

    return group(1)


def cases():
    """(plan, book, script): small plans and those of up to 40 hands and groups, with all kinds of rows."""
    known = [(small(seed), 300) for seed in range(120)] + [(plan, 500) for plan in things.plans()]
    for seed, (plan, many) in enumerate(known):
        chance = random.Random(seed)
        hands = flat(plan)
        yield plan, book_of(plan, seed), tuple(chance.choice(hands) for _ in range(many))
