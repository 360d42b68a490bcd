"""Points [3], [4] and [15], with the interface's stage 1: names, cases, sets and events."""

import string
import unittest

from talkedalike.cases import Case, is_event, is_name, is_set
from talkedalike.errors import (BadCells, BadPeople, BadPerson, BadWeights, BadWorlds, NamedTwice, NoPerson,
                                NoSet, NoWorld)
from tests.helpers import Refusals, cells, partitions, seen_of, values_of_all_kinds

WORLDS = ["a", "b", "c"]
WEIGHTS = [1, 1, 2]
PEOPLE = [("ann", (("a", "b"), ("c",))), ("bob", (("a",), ("c", "b")))]

# None of these is a name.
NO_NAMES = [name for name in values_of_all_kinds()]

# None of these is cells of the worlds a, b, c.
NO_CELLS = values_of_all_kinds() + [
    (), [], "abc", ("abc",), ("a", "b", "c"), ((),), (("a", "b"),), (("a", "b"), ("b", "c")), (("a",), ("b",)),
    (("a", "b", "c", "a"),), (("a", "a"), ("b", "c")), (("a", "b"), ("c",), ("c",)), (("a", "b"), ("c",), ()),
    ((), ("a", "b", "c")), (("a", "b", "c"), ("d",)), (("a", "b", "d"),), (["a", "b"], ["c"]), (["a"], ("b", "c")),
    [("a", "b"), ("c",)], [["a", "b"], ["c"]], {("a", "b"): 1, ("c",): 1}, (("a", "b"), "c"), (("a", ("b",), "c"),),
    (("a", "b", ["c"]),), (("a", "b", "C"),), (("a", "b", ""),), (("a", "b", True),), (("a", "b"), ("c",), None),
    (("a", "b"), {"c": 1}), ((("a", "b"), ("c",)),), (("a b", "c"),), ((), (), ()), (("a", "b", "c"), 1),
]


def a_case():
    return Case(WORLDS, WEIGHTS, PEOPLE)


class IsNameTest(unittest.TestCase):
    def test_names(self):
        for value in ["a", "z", "ann", "abcdefgh", "zzzzzzzz", "nopqrstu", "vwxyz"] + list(string.ascii_lowercase):
            self.assertIs(is_name(value), True, value)

    def test_lengths_from_one_to_eight(self):
        lengths = [many for many in range(20) if is_name("b" * many)]
        self.assertEqual(lengths, [1, 2, 3, 4, 5, 6, 7, 8])

    def test_every_other_character_is_refused_at_each_place(self):
        for number in list(range(256)) + [0x3B1, 0x131, 0x212A, 0xFF41]:
            sign = chr(number)
            good = sign in string.ascii_lowercase
            for value in (sign, sign + "b", "b" + sign, "bb" + sign + "bb"):
                self.assertIs(is_name(value), good, repr(value))

    def test_values_of_all_kinds(self):
        for value in NO_NAMES + [["a"], ("a",), {"a": 1}, a_case(), NoWorld("a"), "a" * 10000]:
            self.assertIs(is_name(value), False)

    def test_by_name(self):
        self.assertIs(is_name(value="ann"), True)


class GoodCasesTest(unittest.TestCase):
    def test_from_lists_and_from_tuples(self):
        for kind in (list, tuple):
            case = Case(kind(WORLDS), kind(WEIGHTS), kind(PEOPLE))
            self.assertEqual(case, a_case())
            self.assertEqual([case.worlds, case.weights, case.names], [WORLDS, WEIGHTS, ["ann", "bob"]])

    def test_by_name(self):
        self.assertEqual(Case(people=PEOPLE, worlds=WORLDS, weights=WEIGHTS), a_case())

    def test_order_is_that_of_handing_in(self):
        case = Case(["z", "a", "m"], [7, 9, 8], [("zoe", cells("m az")), ("al", cells("z m a")), ("mo", cells("mza"))])
        self.assertEqual(case.worlds, ["z", "a", "m"])
        self.assertEqual(case.weights, [7, 9, 8])
        self.assertEqual(case.names, ["zoe", "al", "mo"])

    def test_cells_are_sets_ascending(self):
        case = Case(list("dcba"), [1] * 4, [("ann", (("d", "b"), ("c", "a"))), ("bob", cells("d c b a"))])
        self.assertEqual(case.cells("ann"), [("a", "c"), ("b", "d")])
        self.assertEqual(case.cells("bob"), [("a",), ("b",), ("c",), ("d",)])
        self.assertEqual(case.cells(person="ann"), [("a", "c"), ("b", "d")])

    def test_ascending_is_by_strings_and_tuples(self):
        worlds = ["b", "ba", "aa", "a", "ab"]
        case = Case(worlds, [1] * 5, [("ann", (("b",), ("ba", "aa", "a"), ("ab",))), ("bob", (tuple(worlds),))])
        self.assertEqual(case.cells("ann"), [("a", "aa", "ba"), ("ab",), ("b",)])
        self.assertEqual(case.cells("bob"), [("a", "aa", "ab", "b", "ba")])

    def test_all_ways_to_part_four_worlds(self):
        for parted in partitions(list("dabc")):
            case = Case(list("dabc"), [1] * 4, [("ann", parted)])
            self.assertEqual(case.cells("ann"), sorted(tuple(sorted(cell)) for cell in parted))

    def test_one_world_and_one_person_with_one_name(self):
        case = Case(["a"], [1], [("a", (("a",),))])
        self.assertEqual(seen_of(case), (["a"], [1], ["a"], [[("a",)]]))

    def test_weight_of_each_set(self):
        case = Case(["c", "a", "b"], [5, 10 ** 40, 7], [("ann", cells("abc"))])
        self.assertEqual(case.weight(("c",)), 5)
        self.assertEqual(case.weight(("a", "c")), 10 ** 40 + 5)
        self.assertEqual(case.weight(("b", "c")), 12)
        self.assertEqual(case.weight(some=("a", "b", "c")), 10 ** 40 + 12)


class RefusedCasesTest(Refusals, unittest.TestCase):
    def test_worlds(self):
        bad = values_of_all_kinds() + [
            [], (), "abc", ["a", "b", "a"], ("a", "a", "b"), ["a", "b", ""], ["a", "b", "abcdefghi"], ["a", "B", "c"],
            ["a", "b1", "c"], ["a", "b c", "c"], ["a", "b", True], ["a", "b", 1], ["a", ["b"], "c"], ["a", ("b",), "c"],
            {"a": 1, "b": 1, "c": 1}, [["a", "b", "c"]], ["a", None, "c"], ["a", "b", {}], ["a", "b", "c\n"],
        ]
        for value in bad:
            self.refused_value(BadWorlds, value, Case, value, WEIGHTS, PEOPLE)

    def test_weights(self):
        bad = values_of_all_kinds() + [
            [], (), [1, 2], [1, 2, 3, 4], [1, 0, 2], [1, -1, 2], [1, True, 2], [True, True, True], (1, 2, False),
            [1, "1", 2], [1, None, 2], [1, [1], 2], [1, (1,), 2], "111", {1: 1, 2: 2, 3: 3}, [0, 0, 0], [1, 1, -10 ** 59],
            ["a", "b", "c"], [[1, 1, 2]],
        ]
        for value in bad:
            self.refused_value(BadWeights, value, Case, WORLDS, value, PEOPLE)

    def test_people_that_are_no_list_of_things(self):
        none = [value for value in values_of_all_kinds() if not isinstance(value, (list, tuple))]
        for value in none + [[], (), "ann", {"ann": (("a", "b", "c"),)}, a_case()]:
            self.refused_value(BadPeople, value, Case, WORLDS, WEIGHTS, value)

    def test_person_that_is_none(self):
        good = PEOPLE[0][1]
        bad = values_of_all_kinds() + [
            (), "ann", ("ann",), ("ann", good, 1), ["ann", good], (good, "ann"), ("ann", list(good)), {"ann": good},
            (("ann", good),), ("Ann", good), ("", good), ("abcdefghi", good), (True, good), (["ann"], good),
            (("ann",), good), (None, good), ({}, good), ("ann\n", good),
        ]
        for value in bad:
            for people, number in [([value], 0), ([*PEOPLE, value], 2), ((PEOPLE[0], value, PEOPLE[1]), 1)]:
                self.refused(BadPerson, Case, WORLDS, WEIGHTS, people, attributes={"number": number})

    def test_person_whose_cells_are_none(self):
        for value in NO_CELLS:
            for people, number in [([("ann", value)], 0), (PEOPLE + [("cas", value)], 2)]:
                self.refused(BadPerson, Case, WORLDS, WEIGHTS, people, attributes={"number": number})

    def test_people_with_the_first_one_that_is_none(self):
        people = [PEOPLE[0], ("bob", (("a", "b"),)), 5, PEOPLE[1], ("cas", ())]
        self.refused(BadPerson, Case, WORLDS, WEIGHTS, people, attributes={"number": 1})

    def test_name_twice(self):
        one = cells("abc")
        for names, twice in [("ann ann", "ann"), ("ann bob ann", "ann"), ("ann bob cas bob ann", "bob"),
                             ("ann bob bob ann", "bob"), ("ann bob cas cas cas", "cas")]:
            people = [(name, one) for name in names.split()]
            self.refused(NamedTwice, Case, WORLDS, WEIGHTS, people, attributes={"name": twice})
            self.refused(NamedTwice, Case, WORLDS, WEIGHTS, tuple(people), attributes={"name": twice})

    def test_of_several_errors_the_one_named_first(self):
        twice = [PEOPLE[0], PEOPLE[0]]
        self.refused_value(BadWorlds, [], Case, [], [], [])
        self.refused_value(BadWorlds, ["a", "a"], Case, ["a", "a"], [0], [5])
        self.refused_value(BadWorlds, "abc", Case, worlds="abc", weights=WEIGHTS, people=twice)
        self.refused_value(BadWeights, [0], Case, WORLDS, [0], [])
        self.refused_value(BadWeights, (1, 1), Case, WORLDS, (1, 1), twice)
        self.refused_value(BadWeights, [True] * 3, Case, people=[5], weights=[True] * 3, worlds=WORLDS)
        self.refused(BadPerson, Case, WORLDS, WEIGHTS, twice + [5], attributes={"number": 2})
        self.refused(BadPerson, Case, WORLDS, WEIGHTS, [5] + twice, attributes={"number": 0})

    def test_the_same_worlds_are_asked_of_each_person(self):
        self.refused(BadPerson, Case, ["a", "b"], [1, 1], PEOPLE, attributes={"number": 0})
        self.refused(BadPerson, Case, list("abcd"), [1] * 4, PEOPLE, attributes={"number": 0})


class QuestionsRefusedTest(Refusals, unittest.TestCase):
    def test_cells_of_nobody(self):
        for value in values_of_all_kinds() + ["cas", "an", "annn", "a", ["ann"], ("ann",), [], ()]:
            self.refused_value(NoPerson, value, a_case().cells, value)
        self.refused_value(NoPerson, 1, a_case().cells, person=1)

    def test_weight_of_no_set(self):
        bad = [(), [], "a", ["a"], ("d",), ("a", "a"), ("b", "a"), ("a", "c", "b"), ("a", "d"), ("a", 1), ("ann",),
               ("a", ["b"]), {"a": 1}, (("a",),), ("a", "b", "c", "c"), ("a", True)]
        for value in values_of_all_kinds() + bad:
            self.refused_value(NoSet, value, a_case().weight, value)
        self.refused_value(NoSet, (), a_case().weight, some=())


class SetsAndEventsTest(unittest.TestCase):
    def test_all_tuples_of_worlds(self):
        case = Case(["c", "a", "b"], [1, 1, 1], [("ann", cells("abc"))])
        events = [(), ("a",), ("a", "b"), ("a", "b", "c"), ("a", "c"), ("b",), ("b", "c"), ("c",)]
        tuples = [()]
        for _ in range(4):
            tuples = tuples + [some + (world,) for some in tuples for world in "abcd"]
        for value in tuples:
            self.assertIs(is_event(case, value), value in events, value)
            self.assertIs(is_set(case, value), value in events and value != (), value)

    def test_values_of_all_kinds(self):
        case = a_case()
        bad = [[], ["a"], ["a", "b"], "a", "abc", {}, {"a": 1}, (("a",),), ("a", None), ("a", ["b"]), ("a", 1), ("ann",),
               case, NoSet(("a",)), ("a", case), case.worlds]
        for value in values_of_all_kinds() + bad:
            self.assertIs(is_set(case, value), False)
            self.assertIs(is_event(case, value), False)

    def test_by_name(self):
        self.assertIs(is_set(value=("a",), case=a_case()), True)
        self.assertIs(is_event(value=(), case=a_case()), True)

    def test_ascending_is_by_strings_not_by_the_order_of_the_worlds(self):
        case = Case(["b", "ab", "a"], [1, 1, 1], [("ann", (("b", "ab", "a"),))])
        self.assertIs(is_set(case, ("a", "ab", "b")), True)
        self.assertIs(is_set(case, ("b", "ab", "a")), False)
        self.assertIs(is_event(case, ("a", "b", "ab")), False)


class WithCellsTest(Refusals, unittest.TestCase):
    def test_other_cells_for_one_person(self):
        case = a_case()
        other = case.with_cells("ann", (("c", "b", "a"),))
        self.assertEqual(seen_of(other), (WORLDS, WEIGHTS, ["ann", "bob"], [[("a", "b", "c")], [("a",), ("b", "c")]]))
        self.assertEqual(other, Case(WORLDS, WEIGHTS, [("ann", cells("abc")), PEOPLE[1]]))
        self.assertIs(type(other), Case)

    def test_the_old_case_is_as_it_was(self):
        case = a_case()
        before = seen_of(case)
        case.with_cells("bob", cells("c b a"))
        case.with_cells(cells=cells("abc"), person="bob")
        self.assertEqual(seen_of(case), before)
        self.assertEqual(case, a_case())

    def test_the_order_of_the_people_stays(self):
        case = Case(WORLDS, WEIGHTS, [("zoe", cells("abc")), ("al", cells("ab c")), ("mo", cells("a bc"))])
        for name in ("zoe", "al", "mo"):
            other = case.with_cells(name, cells("b ac"))
            self.assertEqual(other.names, ["zoe", "al", "mo"])
            for whose in other.names:
                self.assertEqual(other.cells(whose), [("a", "c"), ("b",)] if whose == name else case.cells(whose))

    def test_the_same_cells_give_an_equal_case(self):
        case = a_case()
        self.assertEqual(case.with_cells("bob", (("b", "c"), ("a",))), case)

    def test_a_person_that_is_none(self):
        for value in values_of_all_kinds() + ["cas", ["ann"], ("ann",)]:
            self.refused_value(NoPerson, value, a_case().with_cells, value, cells("abc"))

    def test_cells_that_are_none(self):
        case = a_case()
        for value in NO_CELLS + [case.cells("ann"), cells("ab"), cells("abcd")]:
            self.refused_value(BadCells, value, case.with_cells, "ann", value)
        self.assertEqual(seen_of(case), seen_of(a_case()))

    def test_of_both_errors_the_person_is_due(self):
        self.refused_value(NoPerson, "cas", a_case().with_cells, "cas", ())
        self.refused_value(NoPerson, 1, a_case().with_cells, cells=5, person=1)


class EqualTest(unittest.TestCase):
    def test_equal_cases(self):
        case = a_case()
        same = Case(tuple(WORLDS), tuple(WEIGHTS), [("ann", (("c",), ("b", "a"))), ("bob", (("b", "c"), ("a",)))])
        for other in (case, a_case(), same, case.with_cells("ann", PEOPLE[0][1])):
            self.assertIs(case == other, True)
            self.assertIs(case != other, False)

    def test_unequal_cases(self):
        ann, bob = PEOPLE
        others = [
            Case(["b", "a", "c"], WEIGHTS, PEOPLE), Case(WORLDS, [1, 2, 1], PEOPLE), Case(WORLDS, [2, 2, 4], PEOPLE),
            Case(WORLDS, WEIGHTS, [bob, ann]), Case(WORLDS, WEIGHTS, [ann]), Case(WORLDS, WEIGHTS, [bob]),
            Case(WORLDS, WEIGHTS, [ann, bob, ("cas", cells("abc"))]), Case(WORLDS, WEIGHTS, [ann, ("cas", bob[1])]),
            Case(WORLDS, WEIGHTS, [("ann", bob[1]), ("bob", ann[1])]), Case(WORLDS, WEIGHTS, [ann, ("bob", ann[1])]),
            Case(["a", "c", "b"], [1, 2, 1], PEOPLE),
            Case(["a", "b", "d"], WEIGHTS, [("ann", cells("ab d")), ("bob", cells("a bd"))]),
            Case(["a", "b"], [1, 1], [("ann", cells("ab")), ("bob", cells("a b"))]),
        ]
        for at, other in enumerate(others):
            with self.subTest(at=at):
                self.assertIs(a_case() == other, False)
                self.assertIs(other == a_case(), False)
                self.assertIs(a_case() != other, True)

    def test_no_other_value_is_equal(self):
        class Anything:
            def __eq__(self, other):
                return True

        case = a_case()
        others = [WORLDS, PEOPLE, (WORLDS, WEIGHTS, PEOPLE), seen_of(case), [case], (case,), Case, Anything(), object()]
        for other in values_of_all_kinds() + others:
            self.assertIs(case == other, False)
            self.assertIs(case != other, True)

    def test_cases_are_found_in_lists_and_tuples(self):
        self.assertIn(a_case(), [1, a_case()])
        self.assertEqual(("x", [a_case()]), ("x", [a_case()]))


class CopiesTest(unittest.TestCase):
    def test_changing_what_was_handed_in_changes_no_case(self):
        worlds, weights, people = list(WORLDS), list(WEIGHTS), list(PEOPLE)
        case = Case(worlds, weights, people)
        worlds.append("d")
        weights[0] = 9
        people.pop()
        self.assertEqual(case, a_case())
        self.assertEqual(seen_of(case), seen_of(a_case()))
        self.assertEqual(case.weight(("a",)), 1)

    def test_nothing_handed_in_is_changed(self):
        worlds, weights, people = ["c", "a", "b"], [3, 1, 2], [PEOPLE[1], PEOPLE[0]]
        Case(worlds, weights, people)
        self.assertEqual((worlds, weights), (["c", "a", "b"], [3, 1, 2]))
        self.assertEqual(people, [("bob", (("a",), ("c", "b"))), ("ann", (("a", "b"), ("c",)))])

    def test_each_list_is_new(self):
        case = a_case()
        asks = [lambda: case.worlds, lambda: case.weights, lambda: case.names, lambda: case.cells("ann")]
        for ask in asks:
            first, second = ask(), ask()
            self.assertIs(type(first), list)
            self.assertIsNot(first, second)
            first.clear()
            second.reverse()
            second.append("x")
            self.assertEqual(seen_of(case), seen_of(a_case()))
        self.assertEqual(case, a_case())

    def test_a_case_with_other_cells_shares_no_list(self):
        case = a_case()
        other = case.with_cells("ann", cells("abc"))
        other.worlds.clear()
        other.cells("bob").clear()
        self.assertEqual(seen_of(case), seen_of(a_case()))
        self.assertEqual(other.cells("bob"), case.cells("bob"))


class AnySizeTest(Refusals, unittest.TestCase):
    """Point [15] limits no case of stage 1."""

    MANY = 20000

    def many_worlds(self):
        letters = string.ascii_lowercase
        return [letters[k // 676 // 26] + letters[k // 676 % 26] + letters[k // 26 % 26] + letters[k % 26]
                for k in range(self.MANY)]

    def test_many_worlds(self):
        worlds = self.many_worlds()
        backwards = tuple(reversed(worlds))
        people = [("ann", (backwards,)), ("bob", tuple((world,) for world in backwards))]
        case = Case(backwards, list(range(1, self.MANY + 1)), people)
        self.assertEqual(case.cells("ann"), [tuple(worlds)])
        self.assertEqual(case.cells("bob"), [(world,) for world in worlds])
        self.assertEqual(case.weight(tuple(worlds)), self.MANY * (self.MANY + 1) // 2)
        self.assertIs(is_set(case, tuple(worlds)), True)
        self.assertIs(is_set(case, backwards), False)
        other = case.with_cells("bob", (tuple(worlds),))
        self.assertEqual(other.cells("bob"), case.cells("ann"))
        self.assertIs(other == case, False)
        self.refused_value(BadCells, (backwards[1:],), case.with_cells, "bob", (backwards[1:],))

    def test_many_people(self):
        names = self.many_worlds()
        case = Case(["a", "b"], [1, 1], [(name, cells("ab")) for name in names])
        self.assertEqual(case.names, names)
        self.assertEqual(case.with_cells(names[-1], cells("b a")).cells(names[-1]), [("a",), ("b",)])
        twice = [(name, cells("ab")) for name in names + [names[7]]]
        self.refused(NamedTwice, Case, ["a", "b"], [1, 1], twice, attributes={"name": names[7]})
        self.refused(BadPerson, Case, ["a", "b"], [1, 1], twice + [0], attributes={"number": self.MANY + 1})

    def test_great_weights(self):
        great = 10 ** 6000
        case = Case(["a", "b"], [great, 1], [("ann", cells("ab"))])
        self.assertTrue(case.weight(("a", "b")) == great + 1)
        self.assertTrue(case.weights == [great, 1])
        with self.assertRaises(BadWeights) as caught:
            Case(["a", "b"], [great, -great], [("ann", cells("ab"))])
        self.assertTrue(caught.exception.value == [great, -great])


if __name__ == "__main__":
    unittest.main()
