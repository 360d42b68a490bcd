"""Point [12], with the interface's stage 9: halls, their events, what is heard, what is possible."""

import unittest

from talkedalike.cases import Case
from talkedalike.errors import BadCells, BadEvent, BadName, BadRule, LastOne, NamedTwice, NoPerson, Nothing, NoWorld
from talkedalike.halls import Hall, replayed
from talkedalike.talks import after, said, talk
from talkedalike.whispers import whispered, whispers
from tests import by_the_words
from tests.drawn import draw_case, draw_hall_events, draw_order, draw_rule, draw_web, drawer
from tests.helpers import Refusals, cells, seen_of, values_of_all_kinds

KINDS = ["chance", "atleast", "floor", "sure", "best", "size", "table"]
CHANCE = ("chance", ("a",))


def sets(words):
    return list(cells(words))


def a_case():
    return Case(["c", "a", "b", "d"], [1, 2, 1, 1],
                [("ann", cells("ab cd")), ("bob", cells("ac b d")), ("cas", cells("abcd"))])


def standing(hall):
    """All that a hall tells about itself."""
    case = hall.case
    return (seen_of(case), hall.history, [hall.heard(world) for world in case.worlds],
            [hall.possible(world) for world in case.worlds])


EVENTS = [
    ("say", "bob", CHANCE), ("whisper", "ann", "cas", ("sure", ("a", "b"))), ("look", "cas", ("b", "d")),
    ("come", "zoe", cells("dcba")), ("say", "zoe", ("size",)), ("leave", "ann"), ("come", "ann", cells("b acd")),
    ("whisper", "zoe", "ann", ("best", (("go", (1, 2, 3, 4)), ("stay", (4, 3, 2, 1))))), ("look", "zoe", ()),
    ("leave", "bob"), ("leave", "cas"), ("say", "ann", ("floor", ("c",), 7)), ("leave", "zoe"), ("look", "ann", ("a", "b", "c", "d")),
]


def do(hall, event):
    """Do an event by the method with its name."""
    return getattr(hall, event[0])(*event[1:])


class EventsTest(unittest.TestCase):
    def test_a_new_hall(self):
        for hall in (Hall(a_case()), Hall(case=a_case())):
            self.assertEqual(hall.case, a_case())
            self.assertEqual(hall.history, [])
            for world in "abcd":
                self.assertEqual(hall.heard(world), [])
                self.assertEqual(hall.possible(world), ("a", "b", "c", "d"))

    def check(self, event, people, heard, possible):
        hall = Hall(a_case())
        self.assertIsNone(do(hall, event))
        self.assertEqual({name: hall.case.cells(name) for name in hall.case.names}, people)
        self.assertEqual(hall.case.names, list(people))
        self.assertEqual((hall.case.worlds, hall.case.weights), (["c", "a", "b", "d"], [1, 2, 1, 1]))
        self.assertEqual(hall.history, [event])
        self.assertEqual({world: hall.heard(world) for world in "abcd"}, heard)
        self.assertEqual({world: hall.possible(world) for world in "abcd"}, possible)

    def test_say(self):
        self.check(("say", "ann", CHANCE), {"ann": sets("ab cd"), "bob": sets("a b c d"), "cas": sets("ab cd")},
                   {"a": [(2, 3)], "b": [(2, 3)], "c": [(0, 1)], "d": [(0, 1)]},
                   {"a": ("a", "b"), "b": ("a", "b"), "c": ("c", "d"), "d": ("c", "d")})

    def test_whisper(self):
        self.check(("whisper", "ann", "cas", CHANCE), {"ann": sets("ab cd"), "bob": sets("ac b d"), "cas": sets("ab cd")},
                   {"a": [(2, 3)], "b": [(2, 3)], "c": [(0, 1)], "d": [(0, 1)]},
                   {"a": ("a", "b"), "b": ("a", "b"), "c": ("c", "d"), "d": ("c", "d")})

    def test_look(self):
        everybody = {"ann": sets("a b cd"), "bob": sets("ac b d"), "cas": sets("abcd")}
        self.check(("look", "ann", ("a", "c", "d")), everybody, {"a": ["yes"], "b": ["no"], "c": ["yes"], "d": ["yes"]},
                   {"a": ("a", "c", "d"), "b": ("b",), "c": ("a", "c", "d"), "d": ("a", "c", "d")})
        as_ahead = {name: a_case().cells(name) for name in a_case().names}
        everywhere = {world: ("a", "b", "c", "d") for world in "abcd"}
        self.check(("look", "ann", ()), as_ahead, {world: ["no"] for world in "abcd"}, everywhere)
        self.check(("look", "ann", ("a", "b", "c", "d")), as_ahead, {world: ["yes"] for world in "abcd"}, everywhere)

    def test_come(self):
        self.check(("come", "abe", cells("d ba c")), {**{name: a_case().cells(name) for name in a_case().names}, "abe": sets("ab c d")},
                   {world: [] for world in "abcd"}, {world: ("a", "b", "c", "d") for world in "abcd"})

    def test_leave(self):
        self.check(("leave", "bob"), {"ann": sets("ab cd"), "cas": sets("abcd")},
                   {world: [] for world in "abcd"}, {world: ("a", "b", "c", "d") for world in "abcd"})

    def test_many_one_after_the_other(self):
        hall = Hall(a_case())
        for number, event in enumerate(EVENTS):
            self.assertIsNone(do(hall, event))
            self.assert_as_told(hall, a_case(), EVENTS[:number + 1])

    def assert_as_told(self, hall, case, events):
        """Check a hall against what the words of the document tell."""
        people, heard = by_the_words.hall(case, events)
        due = Case(case.worlds, case.weights, [(name, tuple(people[name])) for name in people])
        self.assertEqual(hall.case, due)
        self.assertEqual(hall.case.names, list(people))
        self.assertEqual(hall.history, events)
        for world in case.worlds:
            self.assertEqual(repr(hall.heard(world)), repr(heard[world]))
            same = [other for other in sorted(case.worlds) if repr(heard[other]) == repr(heard[world])]
            self.assertEqual(hall.possible(world), tuple(same))

    def test_drawn_events_and_undo_and_forks(self):
        draw = drawer(12)
        for _ in range(60):
            case = draw_case(draw, most_worlds=4)
            hall, events = Hall(case), []
            for _ in range(6):
                names = hall.case.names
                now = Case(case.worlds, case.weights, [(name, tuple(hall.case.cells(name))) for name in names])
                more = draw_hall_events(draw, now, KINDS, draw.randint(0, 4))
                events = events + more
                for event in more:
                    do(hall, event)
                other = hall.fork()
                for _ in range(draw.randint(0, len(events))):
                    self.assertEqual(hall.undo(), events[-1])
                    events = events[:-1]
                self.assert_as_told(hall, case, events)
                if draw.random() < 0.3:
                    hall, events = other, other.history
                    self.assert_as_told(hall, case, events)
            self.assertEqual(standing(replayed(case, events)), standing(hall))

    def test_come_and_leave_and_come_again(self):
        hall = Hall(a_case())
        hall.leave("ann")
        hall.come("ann", cells("a b c d"))
        self.assertEqual(hall.case.names, ["bob", "cas", "ann"])
        self.assertEqual(hall.case.cells("ann"), sets("a b c d"))
        hall.leave("bob")
        hall.leave("cas")
        with self.assertRaises(LastOne):
            hall.leave("ann")
        hall.come("bob", cells("abcd"))
        hall.leave("ann")
        self.assertEqual(hall.case.names, ["bob"])
        self.assertEqual(len(hall.history), 6)

    def test_by_name(self):
        hall = Hall(a_case())
        hall.say(rule=CHANCE, person="bob")
        hall.whisper(rule=("size",), hearer="cas", person="ann")
        hall.look(event=("a",), person="ann")
        hall.come(cells=cells("abcd"), person="zoe")
        hall.leave(person="ann")
        due = [("say", "bob", CHANCE), ("whisper", "ann", "cas", ("size",)), ("look", "ann", ("a",)),
               ("come", "zoe", cells("abcd")), ("leave", "ann")]
        self.assertEqual(hall.history, due)
        self.assertEqual(standing(replayed(events=due, case=a_case())), standing(hall))
        self.assertEqual(hall.heard(world="a"), hall.heard("a"))
        self.assertEqual(hall.possible(world="a"), hall.possible("a"))

    def test_arguments_stay_as_they_were_handed_in(self):
        hall = Hall(a_case())
        hall.come("zoe", cells("dc ba"))
        self.assertEqual(hall.history, [("come", "zoe", (("d", "c"), ("b", "a")))])
        self.assertEqual(hall.undo(), ("come", "zoe", (("d", "c"), ("b", "a"))))

    def test_words_that_are_equal_in_python_and_not_one(self):
        hall = Hall(Case(["a", "b"], [1, 1], [("ann", cells("a b"))]))
        hall.say("ann", ("atleast", ("a",), 1, 1))
        hall.say("ann", ("size",))
        hall.say("ann", ("floor", ("a",), 1))
        self.assertEqual(repr(hall.heard("a")), "[True, 1, 1]")
        self.assertEqual(repr(hall.heard("b")), "[False, 1, 0]")


class UndoTest(Refusals, unittest.TestCase):
    def test_back_to_the_start_and_on_again(self):
        hall, seen = Hall(a_case()), []
        for event in EVENTS:
            seen.append(standing(hall))
            do(hall, event)
        last = standing(hall)
        for event in EVENTS[::-1]:
            self.assertEqual(hall.undo(), event)
            self.assertEqual(standing(hall), seen.pop())
        self.refused(Nothing, hall.undo, attributes={})
        for event in EVENTS:
            do(hall, event)
        self.assertEqual(standing(hall), last)

    def test_another_event_instead(self):
        hall = Hall(a_case())
        hall.say("bob", CHANCE)
        hall.undo()
        hall.leave("bob")
        self.assertEqual(standing(hall), standing(replayed(a_case(), [("leave", "bob")])))

    def test_nothing_to_take_back(self):
        hall = Hall(a_case())
        self.refused(Nothing, hall.undo, attributes={})
        hall.look("ann", ("a",))
        hall.undo()
        self.refused(Nothing, hall.undo, attributes={})
        self.assertEqual(standing(hall), standing(Hall(a_case())))


class ForkTest(Refusals, unittest.TestCase):
    def test_a_fork_stands_as_the_hall_does(self):
        hall = replayed(a_case(), EVENTS[:5])
        other = hall.fork()
        self.assertIs(type(other), Hall)
        self.assertIsNot(other, hall)
        self.assertEqual(standing(other), standing(hall))

    def test_events_of_the_one_do_not_change_the_other(self):
        for many in range(len(EVENTS)):
            hall = replayed(a_case(), EVENTS[:many])
            due = standing(hall)
            other = hall.fork()
            do(other, EVENTS[many])
            self.assertEqual(standing(hall), due)
            self.assertEqual(standing(other), standing(replayed(a_case(), EVENTS[:many + 1])))
            do(hall, EVENTS[many])
            do(hall, ("look", hall.case.names[0], ("c",)))
            self.assertEqual(standing(other), standing(replayed(a_case(), EVENTS[:many + 1])))

    def test_taking_back_beyond_its_making(self):
        hall = replayed(a_case(), EVENTS[:5])
        due = standing(hall)
        other = hall.fork()
        for event in EVENTS[:5][::-1]:
            self.assertEqual(other.undo(), event)
        self.refused(Nothing, other.undo, attributes={})
        self.assertEqual(standing(other), standing(Hall(a_case())))
        self.assertEqual(standing(hall), due)
        third = hall.fork()
        for _ in range(5):
            hall.undo()
        self.assertEqual(standing(third), due)

    def test_forks_of_forks(self):
        hall = replayed(a_case(), EVENTS[:2])
        one = hall.fork()
        do(one, EVENTS[2])
        two = one.fork()
        do(two, ("leave", "bob"))
        one.undo()
        one.undo()
        three = two.fork()
        three.undo()
        self.assertEqual(standing(hall), standing(replayed(a_case(), EVENTS[:2])))
        self.assertEqual(standing(one), standing(replayed(a_case(), EVENTS[:1])))
        self.assertEqual(standing(two), standing(replayed(a_case(), EVENTS[:3] + [("leave", "bob")])))
        self.assertEqual(standing(three), standing(replayed(a_case(), EVENTS[:3])))


class ReplayedTest(unittest.TestCase):
    def test_each_number_of_events(self):
        hall = Hall(a_case())
        for number, event in enumerate(EVENTS):
            self.assertEqual(standing(replayed(a_case(), EVENTS[:number])), standing(hall))
            do(hall, event)
        told = replayed(a_case(), hall.history)
        self.assertIs(type(told), Hall)
        self.assertEqual(standing(told), standing(hall))
        self.assertEqual(told.undo(), EVENTS[-1])


class KeptTest(unittest.TestCase):
    def test_what_is_handed_out_may_be_changed(self):
        hall = replayed(a_case(), EVENTS[:5])
        due = standing(hall)
        hall.history.clear()
        hall.history.append(("leave", "bob"))
        hall.heard("a").clear()
        hall.case.worlds.clear()
        hall.case.cells("ann").clear()
        hall.fork().undo()
        self.assertEqual(standing(hall), due)
        lists = [hall.history, hall.history, hall.heard("a"), hall.heard("a")]
        self.assertEqual(len({id(each) for each in lists}), 4)

    def test_what_is_handed_in_may_be_changed(self):
        events = list(EVENTS)
        hall = replayed(a_case(), events)
        due = standing(hall)
        self.assertEqual(events, EVENTS)
        events.clear()
        self.assertEqual(standing(hall), due)

    def test_the_case_of_the_start_stays(self):
        case = a_case()
        hall = Hall(case)
        for event in EVENTS:
            do(hall, event)
        self.assertEqual(seen_of(case), seen_of(a_case()))
        other = Hall(case)
        self.assertEqual(other.case, a_case())
        self.assertEqual(other.history, [])

    def test_a_case_that_was_handed_out_stays(self):
        hall = Hall(a_case())
        hall.say("bob", CHANCE)
        case = hall.case
        before = seen_of(case)
        hall.say("ann", CHANCE)
        hall.leave("bob")
        self.assertEqual(seen_of(case), before)


NOBODY = values_of_all_kinds() + ["eve", "a", "", ["ann"], ("ann",), {"ann": 1}, [], ()]
BAD_RULES = values_of_all_kinds() + [(), "size", ["size"], ("size", 1), ("chance", ["a"]), ("chance", ("z",)), ("both", ("size",)), {}]
BAD_EVENTS = [value for value in values_of_all_kinds() if value != ()] + [
    [], ["a"], "a", ("z",), ("b", "a"), ("a", "a"), ("a", 1), ("a", ["b"]), {"a": 1}, (("a",),), None]
BAD_CELLS = values_of_all_kinds() + [
    (), [], cells("abc"), cells("abcd a"), cells("abcd e"), list(cells("abcd")), (["a", "b", "c", "d"],), cells("abcd") + ((),),
    ("abcd",), "abcd", (("a", "b", "c", ["d"]),), {("a", "b", "c", "d"): 1}, ("a", "b", "c", "d")]
BAD_NAMES = values_of_all_kinds() + ["", "Ann", "abcdefghi", ["eve"], ("eve",), 5, None]


class RefusalsTest(Refusals, unittest.TestCase):
    def both(self, error, attributes, name, **arguments):
        """Check that an event is refused, by position and by name, and that it changes nothing."""
        hall = replayed(a_case(), EVENTS[:2])
        before = standing(hall)
        self.refused(error, getattr(hall, name), *arguments.values(), attributes=attributes)
        self.refused(error, getattr(hall, name), **arguments, attributes=attributes)
        self.assertEqual(standing(hall), before)
        self.assertEqual(hall.undo(), EVENTS[1])

    def test_say(self):
        for value in NOBODY:
            self.both(NoPerson, {"value": value}, "say", person=value, rule=CHANCE)
            self.both(NoPerson, {"value": value}, "say", person=value, rule=None)
        for value in BAD_RULES:
            self.both(BadRule, {"value": value}, "say", person="ann", rule=value)

    def test_whisper(self):
        for value in NOBODY:
            self.both(NoPerson, {"value": value}, "whisper", person=value, hearer="ann", rule=CHANCE)
            self.both(NoPerson, {"value": value}, "whisper", person=value, hearer=None, rule=None)
            self.both(NoPerson, {"value": value}, "whisper", person="ann", hearer=value, rule=CHANCE)
            self.both(NoPerson, {"value": value}, "whisper", person="ann", hearer=value, rule=None)
        self.both(NoPerson, {"value": "ann"}, "whisper", person="ann", hearer="ann", rule=CHANCE)
        self.both(NoPerson, {"value": "ann"}, "whisper", person="ann", hearer="ann", rule=())
        self.both(NoPerson, {"value": "eve"}, "whisper", person="eve", hearer="eve", rule=CHANCE)
        for value in BAD_RULES:
            self.both(BadRule, {"value": value}, "whisper", person="ann", hearer="cas", rule=value)

    def test_look(self):
        for value in NOBODY:
            self.both(NoPerson, {"value": value}, "look", person=value, event=("a",))
            self.both(NoPerson, {"value": value}, "look", person=value, event=None)
        for value in BAD_EVENTS:
            self.both(BadEvent, {"value": value}, "look", person="ann", event=value)

    def test_come(self):
        for value in BAD_NAMES:
            self.both(BadName, {"value": value}, "come", person=value, cells=cells("abcd"))
            self.both(BadName, {"value": value}, "come", person=value, cells=None)
        for name in ("ann", "bob", "cas"):
            self.both(NamedTwice, {"name": name}, "come", person=name, cells=cells("abcd"))
            self.both(NamedTwice, {"name": name}, "come", person=name, cells=())
        for value in BAD_CELLS:
            self.both(BadCells, {"value": value}, "come", person="eve", cells=value)

    def test_leave(self):
        for value in NOBODY:
            self.both(NoPerson, {"value": value}, "leave", person=value)
        hall = Hall(Case(["a"], [1], [("ann", cells("a"))]))
        for value in NOBODY:
            self.refused(NoPerson, hall.leave, value, attributes={"value": value})
        self.refused(LastOne, hall.leave, "ann", attributes={})
        self.refused(LastOne, hall.leave, person="ann", attributes={})
        self.assertEqual((hall.history, hall.case.names), ([], ["ann"]))

    def test_who_left_is_nobody(self):
        hall = replayed(a_case(), [("leave", "ann")])
        self.refused(NoPerson, hall.say, "ann", CHANCE, attributes={"value": "ann"})
        self.refused(NoPerson, hall.whisper, "bob", "ann", CHANCE, attributes={"value": "ann"})
        self.refused(NoPerson, hall.look, "ann", (), attributes={"value": "ann"})
        self.refused(NoPerson, hall.leave, "ann", attributes={"value": "ann"})
        self.assertEqual(len(hall.history), 1)

    def test_heard_and_possible(self):
        for value in values_of_all_kinds() + ["z", "ann", "ab", ["a"], ("a",), {"a": 1}, [], ()]:
            for name in ("heard", "possible"):
                self.both(NoWorld, {"value": value}, name, world=value)


class TalksInHallsTest(unittest.TestCase):
    def test_turns_said_openly_are_a_talk(self):
        draw = drawer(120)
        for _ in range(60):
            case = draw_case(draw)
            rule, order = draw_rule(draw, case, KINDS), draw_order(draw, case)
            hall, now = Hall(case), case
            told = talk(case, rule, order)
            for speaker, behind in told:
                hall.say(speaker, rule)
                now = after(now, rule, speaker)
                self.assertEqual(hall.case, now)
                self.assertEqual({name: now.cells(name) for name in now.names}, behind)
            for world in case.worlds:
                self.assertEqual(hall.heard(world), said(case, rule, order, world, len(told)))

    def test_whisperings_are_whispers_in_a_hall(self):
        draw = drawer(121)
        for _ in range(60):
            case = draw_case(draw)
            if len(case.names) > 1:
                rule, web = draw_rule(draw, case, KINDS), draw_web(draw, case.names)
                hall = Hall(case)
                for number in range(whispers(case, rule, web)):
                    hall.whisper(*web[number % len(web)], rule)
                self.assertEqual(hall.case, whispered(case, rule, web))


if __name__ == "__main__":
    unittest.main()
