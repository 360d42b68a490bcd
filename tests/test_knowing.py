"""Points [3] and [5], with the interface's stage 2: what people know, open cells, chains."""

import itertools
import unittest

from talkedalike.cases import Case
from talkedalike.errors import BadEvent, NoPerson, NoWorld
from talkedalike.knowing import all_know, cell_of, chain, is_chain, is_open, knows, open_cell, open_cells
from tests.helpers import Refusals, cells, events, seen_of, small_cases, two_people, values_of_all_kinds

NO_WORLD = values_of_all_kinds() + ["z", "ann", "ab", ["a"], ("a",), {"a": 1}, [], ()]
NO_PERSON = values_of_all_kinds() + ["cas", "a", "an", ["ann"], ("ann",), {"ann": 1}, [], ()]
NO_EVENT = values_of_all_kinds() + [[], ["a"], "a", ("z",), ("a", "a"), ("b", "a"), ("a", "z"), ("a", 1), ("ann",),
                                    ("a", ["b"]), {}, {"a": 1}, (("a",),)]


def a_case():
    """Open cells: abcd, and e with f; a chain from a to d goes by ann, bob, ann."""
    return two_people("abcdef", "ab cd e f", "a bc d ef")


def by_the_words(case, world, event):
    """The people who know the event in the world, straight by the words of [5]."""
    known = []
    for name in case.names:
        cell = next(cell for cell in case.cells(name) if world in cell)
        if set(cell) <= set(event):
            known.append(name)
    return known


def open_cell_by_the_words(case, world):
    """The least set with the world that is made of whole cells of each person."""
    whole = [set(some) for some in events(case.worlds) if world in some and all(
        set(cell) <= set(some) or not set(cell) & set(some) for name in case.names for cell in case.cells(name))]
    return tuple(sorted(set.intersection(*whole)))


def is_chain_by_the_words(case, world, other, links):
    at = world
    for person, there in links:
        if not any(at in cell and there in cell for cell in case.cells(person)):
            return False
        at = there
    return at == other


class CellOfTest(Refusals, unittest.TestCase):
    def test_by_hand(self):
        case = a_case()
        told = {person: [cell_of(case, person, world) for world in "abcdef"] for person in ("ann", "bob")}
        self.assertEqual(told["ann"], [("a", "b"), ("a", "b"), ("c", "d"), ("c", "d"), ("e",), ("f",)])
        self.assertEqual(told["bob"], [("a",), ("b", "c"), ("b", "c"), ("d",), ("e", "f"), ("e", "f")])
        self.assertEqual(cell_of(world="c", case=case, person="bob"), ("b", "c"))

    def test_refusals(self):
        case = a_case()
        for value in NO_PERSON:
            self.refused_value(NoPerson, value, cell_of, case, value, "a")
            self.refused_value(NoPerson, value, cell_of, case, value, "z")
        for value in NO_WORLD:
            self.refused_value(NoWorld, value, cell_of, case, "ann", value)


class KnowsTest(Refusals, unittest.TestCase):
    def test_by_hand(self):
        case = a_case()
        self.assertEqual(knows(case, "ann", ("a", "b", "c")), ("a", "b"))
        self.assertEqual(knows(case, "bob", ("a", "b", "c")), ("a", "b", "c"))
        self.assertEqual(knows(case, "bob", ("a", "b", "d", "f")), ("a", "d"))
        self.assertEqual(knows(event=("e", "f"), person="ann", case=case), ("e", "f"))
        self.assertEqual(knows(case, "bob", ("e",)), ())

    def test_the_empty_event_and_all_worlds(self):
        case = a_case()
        for person in case.names:
            self.assertEqual(knows(case, person, ()), ())
            self.assertEqual(knows(case, person, tuple("abcdef")), tuple("abcdef"))

    def test_the_answer_ascends_whatever_the_order_of_the_worlds(self):
        case = two_people("cadb", "da cb", "cabd")
        self.assertEqual(knows(case, "ann", ("a", "b", "c", "d")), ("a", "b", "c", "d"))

    def test_all_small_cases(self):
        for case in small_cases("bca"):
            for event in events("abc"):
                for person in case.names:
                    due = tuple(world for world in "abc" if person in by_the_words(case, world, event))
                    self.assertEqual(knows(case, person, event), due)

    def test_refusals(self):
        case = a_case()
        for value in NO_PERSON:
            self.refused_value(NoPerson, value, knows, case, value, ("a",))
            self.refused_value(NoPerson, value, knows, case, value, 5)
        for value in NO_EVENT:
            self.refused_value(BadEvent, value, knows, case, "ann", value)


class AllKnowTest(Refusals, unittest.TestCase):
    def test_by_hand(self):
        case = a_case()
        self.assertEqual(all_know(case, ("a", "b", "c")), ("a", "b"))
        self.assertEqual(all_know(case, ("b", "c", "d")), ("c", "d"))
        self.assertEqual(all_know(case, ("b", "c")), ())
        self.assertEqual(all_know(event=tuple("abcdef"), case=case), tuple("abcdef"))
        self.assertEqual(all_know(case, ()), ())

    def test_one_person_and_three(self):
        case = Case(list("abc"), [1, 1, 1], [("ann", cells("ab c"))])
        self.assertEqual(all_know(case, ("a", "c")), ("c",))
        case = Case(list("abc"), [1, 1, 1], [("ann", cells("a b c")), ("bob", cells("a bc")), ("cas", cells("ab c"))])
        self.assertEqual(all_know(case, ("a", "b")), ("a",))
        self.assertEqual(all_know(case, ("b", "c")), ("c",))

    def test_all_small_cases(self):
        for case in small_cases("cab"):
            for event in events("abc"):
                due = tuple(world for world in "abc" if by_the_words(case, world, event) == ["ann", "bob"])
                self.assertEqual(all_know(case, event), due)

    def test_refusals(self):
        for value in NO_EVENT:
            self.refused_value(BadEvent, value, all_know, a_case(), value)


class OpenTest(Refusals, unittest.TestCase):
    def test_by_hand(self):
        case = a_case()
        self.assertEqual(open_cells(case), [("a", "b", "c", "d"), ("e", "f")])
        self.assertEqual([open_cell(case, world) for world in "ade"], [tuple("abcd"), tuple("abcd"), ("e", "f")])
        self.assertEqual(open_cell(world="f", case=case), ("e", "f"))
        self.assertEqual(open_cells(case=two_people("ba", "a b", "b a")), [("a",), ("b",)])

    def test_is_open_by_hand(self):
        case = a_case()
        self.assertIs(is_open(case, "a", ("a", "b", "c", "d")), True)
        self.assertIs(is_open(case, "a", ("a", "b", "c")), False)
        self.assertIs(is_open(case, "e", ("a", "b", "c", "d")), False)
        self.assertIs(is_open(case, "e", ("a", "e", "f")), True)
        self.assertIs(is_open(event=("a", "b", "c", "d", "f"), world="f", case=case), False)

    def test_nothing_is_open_as_the_empty_event(self):
        for case in small_cases("abc"):
            self.assertEqual([is_open(case, world, ()) for world in "abc"], [False] * 3)

    def test_three_people_join_their_cells(self):
        people = [("ann", cells("ab c d e")), ("bob", cells("a bc d e")), ("cas", cells("a b c de"))]
        case = Case(list("edcba"), [1] * 5, people)
        self.assertEqual(open_cells(case), [("a", "b", "c"), ("d", "e")])
        self.assertIs(is_open(case, "a", ("a", "b", "c", "d")), True)

    def test_ascending_whatever_the_order_of_the_worlds(self):
        case = two_people("dbca", "db ca", "d b c a")
        self.assertEqual(open_cells(case), [("a", "c"), ("b", "d")])

    def test_all_small_cases(self):
        for case in small_cases("cab") + small_cases("dbca"):
            due = {world: open_cell_by_the_words(case, world) for world in case.worlds}
            self.assertEqual(open_cells(case), sorted(set(due.values())))
            for world in case.worlds:
                self.assertEqual(open_cell(case, world), due[world])

    def test_open_is_that_all_know_that_all_know_and_so_on(self):
        for case in small_cases("bca"):
            for event in events("abc"):
                known = event
                for _ in range(4):
                    known = all_know(case, known)
                self.assertEqual(tuple(world for world in "abc" if is_open(case, world, event)), known)

    def test_refusals(self):
        case = a_case()
        for value in NO_WORLD:
            self.refused_value(NoWorld, value, open_cell, case, value)
            self.refused_value(NoWorld, value, is_open, case, value, ("a",))
            self.refused_value(NoWorld, value, is_open, case, value, 5)
        for value in NO_EVENT:
            self.refused_value(BadEvent, value, is_open, case, "a", value)


class ChainTest(Refusals, unittest.TestCase):
    def test_by_hand(self):
        case = a_case()
        self.assertEqual(chain(case, "a", "d"), [("ann", "b"), ("bob", "c"), ("ann", "d")])
        self.assertEqual(chain(case, "d", "a"), [("ann", "c"), ("bob", "b"), ("ann", "a")])
        self.assertEqual(chain(other="e", world="f", case=case), [("bob", "e")])
        self.assertIsNone(chain(case, "a", "e"))
        self.assertIsNone(chain(case, "e", "a"))

    def test_from_a_world_to_itself(self):
        for case in small_cases("abc"):
            for world in "abc":
                self.assertEqual(chain(case, world, world), [])

    def test_a_short_cut_is_taken(self):
        people = [("ann", cells("ab cd")), ("bob", cells("a bc d")), ("cas", cells("ac b d"))]
        case = Case(list("abcd"), [1] * 4, people)
        self.assertEqual(chain(case, "a", "d"), [("cas", "c"), ("ann", "d")])

    def test_as_few_tuples_as_can_be_in_all_small_cases(self):
        for case in small_cases("cab"):
            steps = list(itertools.product(case.names, "abc"))
            lists = [list(links) for many in range(3) for links in itertools.product(steps, repeat=many)]
            for world, other in itertools.product("abc", repeat=2):
                good = [links for links in lists if is_chain_by_the_words(case, world, other, links)]
                told = chain(case, world, other)
                if good:
                    self.assertIn(told, [links for links in good if len(links) == len(good[0])])
                else:
                    self.assertIsNone(told)

    def test_there_is_one_just_if_the_open_cell_is_the_same(self):
        for case in small_cases("dbca"):
            for world, other in itertools.product("abcd", repeat=2):
                told = chain(case, world, other)
                self.assertEqual(told is not None, open_cell(case, world) == open_cell(case, other))
                if told is not None:
                    self.assertTrue(is_chain_by_the_words(case, world, other, told))
                    self.assertIs(is_chain(case, world, other, told), True)

    def test_refusals(self):
        case = a_case()
        for value in NO_WORLD:
            self.refused_value(NoWorld, value, chain, case, value, "a")
            self.refused_value(NoWorld, value, chain, case, value, "z")
            self.refused_value(NoWorld, value, chain, case, "a", value)
            self.refused_value(NoWorld, value, chain, other=value, world="a", case=case)


class IsChainTest(Refusals, unittest.TestCase):
    def test_good_chains(self):
        case = a_case()
        good = [
            ("a", "a", []), ("a", "b", [("ann", "b")]), ("a", "c", [("ann", "b"), ("bob", "c")]),
            ("a", "d", [("ann", "b"), ("bob", "c"), ("ann", "d")]), ("f", "e", [("bob", "e")]),
        ]
        for world, other, value in good:
            self.assertIs(is_chain(case, world, other, value), True)
            self.assertIs(is_chain(value=value, other=other, world=world, case=case), True)

    def test_longer_than_need_be(self):
        case = a_case()
        self.assertIs(is_chain(case, "a", "b", [("ann", "a"), ("ann", "b")]), True)
        self.assertIs(is_chain(case, "a", "b", [("bob", "a"), ("ann", "b"), ("bob", "b")]), True)
        self.assertIs(is_chain(case, "a", "b", [("ann", "b"), ("bob", "c"), ("bob", "b")]), True)
        self.assertIs(is_chain(case, "a", "a", [("ann", "b"), ("ann", "a")]), True)
        self.assertIs(is_chain(case, "b", "d", [("ann", "b"), ("bob", "c"), ("ann", "d")]), True)
        self.assertIs(is_chain(case, "a", "b", [("ann", "b"), ("ann", "a")] * 3000 + [("ann", "b")]), True)

    def test_with_one_thing_exchanged(self):
        case = a_case()
        good = [("ann", "b"), ("bob", "c"), ("ann", "d")]
        others = ["ann", "bob", "cas", "a", "b", "c", "d", "e", "z", 1, True, None, ["b"], ("b",), {}, ""]
        for at, part in itertools.product(range(3), range(2)):
            for new in others:
                link = list(good[at])
                link[part] = new
                value = good[:at] + [tuple(link)] + good[at + 1:]
                self.assertIs(is_chain(case, "a", "d", value), value == good, value)

    def test_with_a_link_left_out_put_in_or_turned_round(self):
        case = a_case()
        good = [("ann", "b"), ("bob", "c"), ("ann", "d")]
        for at in range(3):
            self.assertIs(is_chain(case, "a", "d", good[:at] + good[at + 1:]), False)
            self.assertIs(is_chain(case, "a", "d", good[:at] + [("b", "ann")] + good[at:]), False)
            self.assertIs(is_chain(case, "a", "d", good[:at] + [("ann", "f")] + good[at:]), False)
        self.assertIs(is_chain(case, "a", "d", good[::-1]), False)
        self.assertIs(is_chain(case, "a", "d", [link[::-1] for link in good]), False)
        self.assertIs(is_chain(case, "d", "a", good), False)
        self.assertIs(is_chain(case, "a", "c", good), False)
        self.assertIs(is_chain(case, "c", "d", good), False)

    def test_the_empty_list_between_unlike_worlds(self):
        self.assertIs(is_chain(a_case(), "a", "b", []), False)
        self.assertIs(is_chain(two_people("ab", "ab", "ab"), "a", "b", []), False)

    def test_values_of_all_kinds(self):
        case = a_case()
        good = [("ann", "b")]
        bad = [(), tuple(good), [["ann", "b"]], [("ann", "b", "b")], [("ann",)], [()], ["ab"], [("ann", "b"), None],
               [good], {("ann", "b"): 1}, "annb", ("ann", "b"), [("ann", "b"), ()], [{"ann": "b"}], case, NoWorld("b"),
               [case], [("ann", case)], [(case, "b")], {}]
        for value in values_of_all_kinds() + bad:
            self.assertIs(is_chain(case, "a", "b", value), False)
            self.assertIs(is_chain(case, "a", "a", value), False)

    def test_all_lists_of_two_links_in_all_small_cases(self):
        for case in small_cases("bca"):
            steps = list(itertools.product(case.names, "abc"))
            for links in itertools.product(steps, repeat=2):
                due = is_chain_by_the_words(case, "a", "c", links)
                self.assertIs(is_chain(case, "a", "c", list(links)), due)

    def test_refusals(self):
        case = a_case()
        for value in NO_WORLD:
            self.refused_value(NoWorld, value, is_chain, case, value, "a", [])
            self.refused_value(NoWorld, value, is_chain, case, value, "z", 5)
            self.refused_value(NoWorld, value, is_chain, case, "a", value, [("ann", "b")])


class UnchangedTest(unittest.TestCase):
    def test_nothing_handed_in_is_changed(self):
        case, event, value = a_case(), ("a", "b"), [("ann", "b"), ("bob", "c")]
        before = seen_of(case)
        cell_of(case, "ann", "a")
        knows(case, "ann", event)
        all_know(case, event)
        open_cells(case)
        open_cell(case, "a")
        is_open(case, "a", event)
        chain(case, "a", "d")
        is_chain(case, "a", "c", value)
        self.assertEqual(seen_of(case), before)
        self.assertEqual(case, a_case())
        self.assertEqual((event, value), (("a", "b"), [("ann", "b"), ("bob", "c")]))

    def test_each_list_is_new(self):
        case = a_case()
        for ask in (lambda: open_cells(case), lambda: chain(case, "a", "d"), lambda: chain(case, "a", "a")):
            first = ask()
            due = list(first)
            first.clear()
            first.append("x")
            self.assertIs(type(first), list)
            self.assertEqual(ask(), due)

    def test_equal_questions_have_equal_answers(self):
        one, other = a_case(), a_case()
        for world, there in itertools.product("abcdef", repeat=2):
            self.assertEqual(chain(one, world, there), chain(other, world, there))


if __name__ == "__main__":
    unittest.main()
