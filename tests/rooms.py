"""Houses for the tests, put together shortly."""

import things
from nearlocks.errors import NoName
from nearlocks.houses import House
from nearlocks.plans import groups_of, hands_of

TAKE = ("take", None)
LET = ("let",)
LOOP = (TAKE, LET, ("goto", 0))

# Things that no hand and no group is called, beside those of things.anything().
NO_NAMES = ("", " ", "nobody", "ANN", "ann ", " ann", "ann\n", b"ann", None, True, False, 0, 1, -1, ("ann",), ["ann"],
            {"ann": 1}, (), [], {}, things.Stranger(), things.Same())


def house_of(plan, programs=None, rest=()):
    """A house in which these hands have these programs, and all others the rest."""
    known = programs or {}
    return House(plan, tuple((name, known.get(name, rest)) for name in sorted(hands_of(plan))))


def run(house, words):
    """Steps the hands named in one text; the events of the last one."""
    events = ()
    for name in words.split():
        events = house.step(name)
    return events


def tie_all(house):
    for name in hands_of(house.plan):
        if house.hand(name)[2] == "loose":
            house.step(name)


def no_names():
    return list(NO_NAMES) + things.anything() + [
        things.nested(20, core, wrap) for core in (None, "ann", 0) for wrap in (
            lambda x: (x,), lambda x: [x], lambda x: {"ann": x}, lambda x: ("ann", x))]


def picture(house):
    """All that a house tells, to see afterwards that it stayed."""
    return (house.plan, house.book, tuple(house.hand(name) for name in hands_of(house.plan)),
            tuple(house.group(name) for name in groups_of(house.plan)), house.within(), len(house), str(house))


def refused(test, known, call, *args):
    """The refusal of this call: of this very class, no other one."""
    with test.assertRaises(known) as caught:
        call(*args)
    test.assertIs(type(caught.exception), known)
    return caught.exception


def named(test, call, *args):
    """Refused with NoName, its value the last of what was handed in."""
    pictured = things.picture(args[-1])
    test.assertIs(refused(test, NoName, call, *args).name, args[-1])
    test.assertEqual(things.picture(args[-1]), pictured)
