"""Tales: comings, reasons, shows_plain."""

import unittest

import model
import things
from nearlocks.houses import House
from nearlocks.scripts import walk
from nearlocks.tales import comings, reasons, shows_plain

TALE = (
    (("held", "a", "g"), ("held", "g", "all"), ("came", "a")),
    (("stood", "b", "g"),),
    (),
    (("idle", "c", "ended"),),
    (("tied", "b"),),
    (("let", "a"), ("passed", "d", "g"), ("handed", "b", "g", "over"), ("handed", "e", "all", "near"), ("came", "e")),
    (("left", "b"), ("handed", "f", "g", "left")),
    (("let", "e"), ("handed", "g", "all", "near"), ("came", "f")),
    (("let", "f"), ("bare", "g"), ("bare", "all")),
    (("held", "a", "g"), ("held", "g", "all"), ("came", "a")),
)


class EventsTests(unittest.TestCase):
    def test_comings(self):
        self.assertEqual(comings(TALE), ("a", "e", "f", "a"))
        self.assertEqual(comings(()), ())
        self.assertEqual(comings(((), ())), ())
        self.assertEqual(comings(((("idle", "came", "ended"), ("said", "came", 1)),)), ())

    def test_reasons(self):
        self.assertEqual(reasons(TALE), (
            ("b", "g", "over"), ("e", "all", "near"), ("f", "g", "left"), ("g", "all", "near")))
        self.assertEqual(reasons(()), ())
        self.assertEqual(reasons(((), (("said", "handed", 3),))), ())

    def test_of_walks(self):
        for plan, book, script in list(model.cases())[::3]:
            events = walk(House(plan, book), script)
            before = things.twin(events)
            came = [event[1] for step in events for event in step if event[0] == "came"]
            handed = [event[1:] for step in events for event in step if event[0] == "handed"]
            self.assertEqual(comings(events), tuple(came))
            self.assertEqual(reasons(events), tuple(handed))
            self.assertEqual(events, before)

    def test_what_was_told_is_put_together(self):
        for plan, book, script in list(model.cases())[::7]:
            events = walk(House(plan, book), script)
            for many in (0, 1, 50, len(events)):
                self.assertEqual(comings(events[:many]) + comings(events[many:]), comings(events))
                self.assertEqual(reasons(events[:many]) + reasons(events[many:]), reasons(events))


class ShowsPlainTests(unittest.TestCase):
    def told(self, thing, answer):
        before = things.picture(thing)
        self.assertIs(shows_plain(thing), answer, thing)
        self.assertEqual(things.picture(thing), before)

    def test_none(self):
        self.told((), True)
        self.told(((),), True)
        self.told(((), (), ()), True)

    def test_by_turns(self):
        came, let = ("came", "a"), ("let", "a")
        for events, answer in (
                ((came,), True), ((came, let), True), ((came, let, came), True), ((came, let, came, let), True),
                ((let,), False), ((let, came), False), ((came, came), False), ((came, let, let), False),
                ((came, let, came, came), False), ((came, ("came", "b")), False), ((came, ("let", "b")), False),
                ((came, let, ("came", "b"), let), False), ((came, let, ("came", "b"), ("let", "b")), True),
                ((came, let, let, came), False), ((came, let, ("let", "b")), False)):
            self.told((events,), answer)
            self.told(tuple((event,) for event in events), answer)
            # Other events between them count for nothing.
            self.told(tuple((("said", "a", 1), event, ("bare", "g")) for event in events), answer)

    def test_any_text_is_a_name_there(self):
        for name in ("", "a", "A b", "toolonger", "came", "let"):
            self.told(((("came", name), ("let", name)),), True)

    def test_forms_of_came_and_let(self):
        for event in (("came",), ("came", "a", "b"), ("came", None), ("came", 1), ("came", True), ("came", b"a"),
                      ("came", ("a",)), ("came", ["a"]), ("came", {}), ("came", things.Same())):
            self.told(((event,),), False)
            self.told(((("came", "a"), ("let", "a"), event),), False)
        for event in (("let",), ("let", "a", "a"), ("let", None), ("let", 0), ("let", False), ("let", ("a",)),
                      ("let", ["a"]), ("let", {"a": 1}), ("let", things.Same())):
            self.told(((("came", "a"), event),), False)

    def test_other_events_are_of_any_form_that_has_a_text_first(self):
        for event in (("said", "a", 1), ("x",), ("",), ("Came", 1), ("came ", "a"), ("lets", None), ("a", [], {}, ())):
            self.told(((event,),), True)
            self.told(((("came", "a"), event, ("let", "a")),), True)

    def test_events_that_have_no_text_first(self):
        for event in ((), (None,), (1, "a"), (True,), (b"came", "a"), (("came", "a"),), (["came"], "a"), ({},),
                      ["came", "a"], ["said", "a", 1], "came", "", None, 0, True, {"came": "a"}, {},
                      (things.Same(), "a"), things.Stranger()):
            self.told(((event,),), False)
            self.told(((("came", "a"),), (("let", "a"), event)), False)

    def test_lists_and_others_in_place_of_tuples(self):
        self.told(list(TALE), False)
        self.told([], False)
        for at in range(len(TALE)):
            for other in (list(TALE[at]), None, 0, True, "", "came", {}, dict.fromkeys(TALE[at])):
                self.told(TALE[:at] + (other,) + TALE[at + 1:], False)
        for thing in (("came", "a"), (("came", "a"),), ((("came", "a"),),)):
            self.told(thing, thing == ((("came", "a"),),))

    def test_of_walks_with_one_thing_otherwise(self):
        self.told(TALE, True)
        changed = 0
        for plan, book, script in [(None, None, None)] + list(model.cases())[:40:4]:
            events = TALE if plan is None else walk(House(plan, book), script)
            self.told(events, True)
            turns = [(at, number) for at, step in enumerate(events) for number, event in enumerate(step)
                     if event[0] in ("came", "let")]
            for nth, (at, number) in enumerate(turns):
                word, name = events[at][number]
                last = nth == len(turns) - 1
                # Without its last coming or letting go, a tale is plain still.
                self.told(without(events, at, number), last)
                self.told(with_event(events, at, number, (word, name + "x")), last and word == "came")
                self.told(with_event(events, at, number, ("let" if word == "came" else "came", name)), False)
                self.told(with_event(events, at, number, (word, name, name)), False)
                self.told(with_event(events, at, number, (word,)), False)
                self.told(with_event(events, at, number, [word, name]), False)
                changed += 1
        self.assertGreater(changed, 100)

    def test_anything(self):
        for thing in things.anything():
            # Some are tales in which nobody comes, such as tuples of tuples of none.
            self.told(thing, isinstance(thing, tuple) and all(is_step(part) for part in thing))
            self.told((thing,), is_step(thing))
            self.told(((thing,),), plainly(thing))
            self.told(((("came", thing),),), isinstance(thing, str))


def plainly(thing):
    """Whether it is an event that is no coming and no letting go; there is none of these among anything."""
    return isinstance(thing, tuple) and len(thing) > 0 and isinstance(thing[0], str)


def is_step(thing):
    return isinstance(thing, tuple) and all(plainly(part) for part in thing)


def without(events, at, number):
    step = events[at]
    return events[:at] + (step[:number] + step[number + 1:],) + events[at + 1:]


def with_event(events, at, number, event):
    step = events[at]
    return events[:at] + (step[:number] + (event,) + step[number + 1:],) + events[at + 1:]


if __name__ == "__main__":
    unittest.main()
