"""What several tests hand in: plans, and things of every kind."""

import copy
import random

LETTERS = "abcdefghijklmnopqrstuvwxyz"


class Stranger:
    """An object of a class that the program does not know."""


class Same:
    """An object that says it is equal to all."""

    def __eq__(self, other):
        return True


def nested(depth, core, wrap):
    for _ in range(depth):
        core = wrap(core)
    return core


def anything():
    """Things that are no plan, no name, no row, no program and no book; new ones at each call."""
    plain = [
        None, True, False, 0, 1, -1, 2, 99, 100, 10 ** 9, "", " ", "a b", "A", "a1", "a-", "-", "toolonger", "\n",
        b"", b"a", b"take", set(), {"a"}, frozenset(), frozenset(["a"]), [], [1], ["a"], ["a", 1, ["b"]],
        {}, {"a": 1}, {1: ("a", 1, ("b",))}, (1,), (None,), ("",), ((),), ([],), ({},), (True, True),
        ("a", 1), ("a", 1, ()), ("a", 1, ("b",), ()), ([], [], []), ({}, {}, {}), (None, None, None),
        (("a", ()), ("b", [])), ((("take", None),),), Stranger(), Stranger, len, range(3), iter(()),
    ]
    wraps = [lambda x: (x,), lambda x: [x], lambda x: {"a": x}, lambda x: ("a", 1, (x,)), lambda x: (0, x),
             lambda x: ("if", x, None), lambda x: ("take", [x]), lambda x: (("a", (x,)),)]
    deep = [nested(depth, core, wrap) for depth in (1, 2, 19) for wrap in wraps
            for core in (None, True, 0, "", [], {})]
    return plain + deep + [mixed(random.Random(seed), seed % 21) for seed in range(420)]


def mixed(chance, depth):
    """A thing put together by a seeded chance, just so deep, and broad only near its outside."""
    if depth == 0:
        return chance.choice([None, True, False, 0, -1, 7, 10 ** 9, "", "A", "Take", "a b", [], {}])
    parts = [mixed(chance, 0) for _ in range(chance.randrange(4))]
    parts.insert(chance.randrange(len(parts) + 1), mixed(chance, depth - 1))
    wrap = chance.choice([tuple, tuple, list, lambda xs: {number: part for number, part in enumerate(xs)}])
    return wrap(parts)


def picture(thing):
    """What a thing looks like, to see afterwards that it was not changed."""
    return repr(thing)


def names(many):
    """So many names, all unlike, some of one letter and some of eight."""
    found = []
    for at in range(many):
        stem = LETTERS[at % 26]
        found.append(stem if at < 26 else stem * (2 + at // 26))
    found[-1] = "abcdefgh"
    found[0] = "zyxwvuts"
    return found


def chain(depth):
    """Groups within one another, so many, with one hand in the innermost."""
    group = ("h", 1, ("hand",))
    for name in LETTERS[:depth - 1]:
        group = (f"g{name}", 2, (group,))
    return group


def ladder(depth):
    """Groups within one another, with a hand at the left and at the right of each."""
    group = ("inmost", 3, ("hl", "hr"))
    for name in LETTERS[:depth - 1]:
        group = (f"g{name}", 2, (f"l{name}", group, f"r{name}"))
    return group


def broad(many):
    """One group with so many members."""
    first, *rest = names(many + 1)
    return (first, 1, tuple(rest))


def grown(seed, many=40, depth=8):
    """A plan of at most so many hands and groups, put together by a seeded chance."""
    chance = random.Random(seed)
    left = names(many)
    chance.shuffle(left)

    def group(level):
        name = left.pop()
        bound = chance.choice([1, 2, 3, 999999999])
        members = [left.pop()]
        while len(left) > 2 and chance.randrange(4):
            if level < depth and chance.randrange(2):
                members.append(group(level + 1))
            else:
                members.append(left.pop())
            chance.shuffle(members)
        return (name, bound, tuple(members))

    return group(1)


def plans():
    """Plans from the least up to 40 hands and groups and 8 groups within one another."""
    least = ("a", 1, ("b",))
    known = ("all", 1, (("left", 2, ("ann", ("deep", 3, ("bob", "cy")))), "dee", ("right", 10 ** 8, ("eve",))))
    return [least, known, chain(2), chain(8), ladder(8), broad(39)] + [grown(seed) for seed in range(40)]


def places(thing, at=()):
    """The paths, by indexes, to a group and to all groups and hands in it."""
    found = [at]
    if isinstance(thing, tuple):
        for number, member in enumerate(thing[2]):
            found.extend(places(member, at + (2, number)))
    return found


def part(thing, at):
    for number in at:
        thing = thing[number]
    return thing


def replaced(thing, at, new):
    """The same, but with something new at this path; tuples stay tuples."""
    if not at:
        return new
    rows = list(thing)
    rows[at[0]] = replaced(rows[at[0]], at[1:], new)
    return tuple(rows)


def twin(thing):
    return copy.deepcopy(thing)
