"""Point [7], with the interface's stage 6: rules that keep together, splits and quarrels."""

import unittest

from talkedalike.cases import Case
from talkedalike.endings import are_alike, is_settled, unlike_worlds
from talkedalike.errors import BadRule
from talkedalike.talks import said, talk
from talkedalike.verdicts import decide, is_split, keeps_together, least_split, quarrel, splits
from tests import by_the_words
from tests.drawn import TOGETHER, draw_case, draw_rule, drawer
from tests.helpers import cells, exchanged, seen_of, two_people, values_of_all_kinds

KINDS = TOGETHER + ["size", "table"]


def a_case(worlds="abc"):
    return Case(list(worlds), [1] * len(worlds), [("ann", cells(worlds))])


def table(worlds, told, others=0):
    """A table over the worlds, with words for some sets, written as words, and one for all others."""
    return ("table", tuple((some, told.get("".join(some), others)) for some in by_the_words.all_sets(worlds)))


def pairs(words):
    """Tuples of sets, written as words: "a-bc" is (("a",), ("b", "c"))."""
    return [tuple(tuple(some) for some in word.split("-")) for word in words.split()]


class KeepsTogetherTest(unittest.TestCase):
    def test_rules_that_do(self):
        case = Case(["c", "a", "b"], [10 ** 30 - 1, 2, 3], [("ann", cells("cab"))])
        pays = ("best", (("go", (1, -2, 3)), ("stay", (0, 0, 0)), ("wait", (1, -2, 3))))
        for rule in [("chance", ("a",)), ("chance", ("a", "c")), ("chance", ()), ("atleast", ("a", "b"), 1, 2), ("sure", ("b",)),
                     ("floor", ("a",), 7), ("floor", ("c",), 10 ** 30), pays, ("both", pays, ("sure", ("c",))),
                     ("sure", ()), ("both", ("chance", ("a",)), ("both", ("chance", ("b",)), ("sure", ("c",)))),
                     table("abc", {}, 5), table("abc", {"a": 1, "b": 2, "c": 3, "ab": 4, "ac": 5, "bc": 6, "abc": 7}),
                     table("abc", {"ab": "yes", "ac": "yes", "bc": "yes", "a": 1, "b": 2, "c": 3, "abc": "no"})]:
            self.assertIs(keeps_together(case, rule), True, rule)
            self.assertEqual(splits(case, rule), [])
            self.assertIsNone(least_split(case, rule))
            self.assertIsNone(quarrel(case, rule))
            self.assertEqual(decide(case, rule), ("together", None))

    def test_rules_that_do_not(self):
        case = a_case()
        for rule in [("size",), ("both", ("size",), ("size",)), ("both", ("sure", ()), ("size",)), table("abc", {"abc": 1}),
                     table("abc", {"ab": "a"}), table("abc", {"a": 1, "bc": 1, "abc": 2}, "x")]:
            self.assertIs(keeps_together(case, rule), False, rule)
            self.assertIs(keeps_together(rule=rule, case=case), False)
            self.assertEqual(decide(case, rule)[0], "apart")

    def test_a_rule_that_does_not_beside_one_that_tells_all_apart(self):
        case = Case(["a", "b", "c"], [1, 2, 4], [("ann", cells("abc"))])
        apart = table("abc", {"a": 1, "b": 2, "c": 3, "ab": 4, "ac": 5, "bc": 6, "abc": 7})
        self.assertIs(keeps_together(case, ("both", ("size",), apart)), True)
        self.assertIs(keeps_together(case, ("both", ("size",), ("sure", ("a",)))), False)
        self.assertEqual(splits(case, ("both", ("size",), ("sure", ("a",)))), pairs("b-c"))

    def test_one_world_is_always_kept_together(self):
        for rule in [("size",), table("a", {"a": 1}), ("chance", ("a",))]:
            self.assertIs(keeps_together(a_case("a"), rule), True)

    def test_the_people_do_not_matter(self):
        for case in [a_case(), two_people("abc", "a b c", "ab c"), Case(["a", "b", "c"], [1, 1, 1], [("one", cells("a bc"))])]:
            self.assertEqual(decide(case, ("size",)), decide(a_case(), ("size",)))


class SplitsTest(unittest.TestCase):
    def test_sizes(self):
        self.assertEqual(splits(a_case(), ("size",)), pairs("a-b a-c b-c"))
        self.assertEqual(splits(a_case("cabd"), ("size",)), pairs("a-b a-c a-d b-c b-d c-d ab-cd ac-bd ad-bc"))
        self.assertEqual(splits(a_case("ba"), ("size",)), pairs("a-b"))

    def test_the_one_is_less_than_the_other_as_a_tuple_not_by_length(self):
        self.assertEqual(splits(a_case(), table("abc", {"abc": 1})), pairs("a-bc ab-c ac-b"))
        self.assertEqual(least_split(a_case(), table("abc", {"abc": 1})), (("a",), ("b", "c")))

    def test_fewer_worlds_together_come_first(self):
        # All sets but abc and cd have one word, so that each two that make up one of these two are a split.
        rule = table("abcd", {"abc": 1, "cd": 1})
        due = pairs("c-d a-bc ab-c ac-b")
        self.assertEqual(splits(a_case("abcd"), rule), due)
        self.assertEqual(least_split(a_case("abcd"), rule), due[0])

    def test_words_of_unlike_kinds(self):
        rule = table("abc", {"a": 1, "b": "one", "c": 1, "ac": "one", "ab": "x", "bc": "y", "abc": "one"}, None)
        self.assertEqual(splits(a_case(), rule), pairs("a-c"))
        rule = table("abc", {"a": 1, "b": "a", "c": 1, "ac": "a", "ab": "x", "bc": "y", "abc": "b"}, None)
        self.assertEqual(splits(a_case(), rule), pairs("a-c ac-b"))

    def test_worlds_of_several_letters(self):
        case = Case(["b", "ba", "a"], [1, 1, 1], [("ann", (("b", "ba", "a"),))])
        self.assertEqual(splits(case, ("size",)), [(("a",), ("b",)), (("a",), ("ba",)), (("b",), ("ba",))])

    def test_drawn_rules(self):
        draw = drawer(7)
        lengths = set()
        for _ in range(150):
            case = draw_case(draw, most_worlds=4)
            rule = draw_rule(draw, case, KINDS)
            due = by_the_words.splits(case, rule)
            self.assertEqual(splits(case, rule), due)
            self.assertIs(keeps_together(case, rule), not due)
            self.assertEqual(least_split(case, rule), due[0] if due else None)
            lengths.add(min(len(due), 3))
        self.assertEqual(lengths, {0, 1, 2, 3})

    def test_five_worlds_with_a_table_and_eight_without(self):
        draw = drawer(71)
        case = a_case("edcba")
        rule = ("table", tuple((some, draw.randrange(2)) for some in by_the_words.all_sets("abcde")))
        self.assertEqual(splits(case, rule), by_the_words.splits(case, rule))
        told = splits(a_case("abcdefgh"), ("size",))
        # As many as there are pairs of unlike sets apart, both of one world, two, three, four.
        self.assertEqual(len(told), 28 + 28 * 15 // 2 + 56 * 10 // 2 + 70 // 2)
        self.assertEqual(told, sorted(told, key=lambda split: (len(split[0] + split[1]), split)))

    def test_each_list_is_new(self):
        first = splits(a_case(), ("size",))
        self.assertIs(type(first), list)
        first.clear()
        self.assertEqual(splits(a_case(), ("size",)), pairs("a-b a-c b-c"))
        empty = splits(a_case(), ("sure", ()))
        empty.append(1)
        self.assertEqual(splits(a_case(), ("sure", ())), [])


class IsSplitTest(unittest.TestCase):
    def test_all_pairs_of_sets(self):
        draw = drawer(72)
        for _ in range(40):
            case = draw_case(draw, most_worlds=4)
            rule = draw_rule(draw, case, ["size", "table"])
            due = by_the_words.splits(case, rule)
            for one in by_the_words.all_sets(case.worlds) + [()]:
                for other in by_the_words.all_sets(case.worlds) + [()]:
                    self.assertIs(is_split(case, rule, (one, other)), (one, other) in due)

    def test_turned_ones(self):
        for one, other in splits(a_case("abcd"), ("size",)):
            self.assertIs(is_split(a_case("abcd"), ("size",), (one, other)), True)
            self.assertIs(is_split(value=(one, other), rule=("size",), case=a_case("abcd")), True)
            self.assertIs(is_split(a_case("abcd"), ("size",), (other, one)), False)

    def test_with_one_thing_exchanged(self):
        case, rule = a_case("abcd"), ("both", ("size",), ("sure", ("a", "b", "c", "d")))
        due = [repr(split) for split in by_the_words.splits(case, rule)]
        for good in splits(case, rule):
            for value in exchanged(good) + [list(good), good + ((),), good + (1,), (good,), [good], good[0], good[:1]]:
                before = repr(value)
                self.assertIs(is_split(case, rule, value), repr(value) in due, value)
                self.assertEqual(repr(value), before)

    def test_pairs_that_are_none(self):
        case = a_case("abcd")
        bad = [
            (("a",), ("a",)), (("a", "b"), ("b", "c")), (("a",), ("b", "c")), (("a",), ("a", "b")), (("a",), ("z",)),
            ((), ("a",)), (("a",), ()), ((), ()), (("b", "a"), ("c", "d")), (("a", "b"), ("d", "c")), (["a"], ["b"]),
            (("a",), ["b"]), [("a",), ("b",)], ("a", "b"), (("a",), "b"), (("a",), ("b",), ("c",)), (("a",),), (("a",), 1),
            (None, ("b",)), ({"a": 1}, ("b",)), ((("a",),), (("b",),)), (("a",), (True,)), {("a",): 1, ("b",): 1}, (1, 2),
        ]
        for value in bad:
            self.assertIs(is_split(case, ("size",), value), False, value)

    def test_a_rule_that_keeps_together_has_none(self):
        for value in splits(a_case("abcd"), ("size",)):
            self.assertIs(is_split(a_case("abcd"), ("chance", ("a",)), value), False)

    def test_values_of_all_kinds(self):
        case = a_case()
        for value in values_of_all_kinds() + [case, (case, case), (("a",), case), BadRule(1), [], (), {}, decide(case, ("size",))]:
            self.assertIs(is_split(case, ("size",), value), False)


class QuarrelTest(unittest.TestCase):
    def test_by_hand(self):
        due = Case(["c", "a", "b", "d"], [4, 3, 2, 1], [("one", cells("a b c d")), ("other", cells("ab c d"))])
        case = Case(["c", "a", "b", "d"], [4, 3, 2, 1], [("ann", cells("cabd"))])
        told = quarrel(case, ("size",))
        self.assertIs(type(told), Case)
        self.assertEqual(told, due)
        self.assertEqual(quarrel(rule=("size",), case=case), due)
        self.assertEqual(decide(case, ("size",)), ("apart", (("a",), ("b",)), due))
        rule = table("abcd", {"abc": 1})
        self.assertEqual(seen_of(quarrel(case, rule)), (
            ["c", "a", "b", "d"], [4, 3, 2, 1], ["one", "other"], [list(cells("a bc d")), list(cells("abc d"))]))

    def test_no_world_is_left_beside(self):
        told = decide(two_people("ba", "ba", "b a"), ("size",))
        due = Case(["b", "a"], [1, 1], [("one", cells("a b")), ("other", cells("ab"))])
        self.assertEqual(told, ("apart", (("a",), ("b",)), due))

    def test_what_is_said_for_ever(self):
        told = quarrel(a_case("abcd"), table("abcd", {"abc": 1}))
        for order in [("one", "other"), ("other", "one", "one")]:
            self.assertEqual(talk(told, table("abcd", {"abc": 1}), order), [])
            for world in "abc":
                row = said(told, table("abcd", {"abc": 1}), order, world, 1000)
                due = [0 if order[number % len(order)] == "one" else 1 for number in range(1000)]
                self.assertEqual(row, due)
            self.assertEqual(said(told, table("abcd", {"abc": 1}), order, "d", 3), [0, 0, 0])

    def test_drawn_rules(self):
        draw = drawer(73)
        found = 0
        for _ in range(150):
            case = draw_case(draw, most_worlds=4)
            rule = draw_rule(draw, case, KINDS)
            told, due = decide(case, rule), by_the_words.splits(case, rule)
            if not due:
                self.assertEqual((told, quarrel(case, rule)), (("together", None), None))
                continue
            found += 1
            one, other = due[0]
            alone = tuple((world,) for world in case.worlds if world not in one + other)
            people = [("one", (one, other) + alone), ("other", (one + other,) + alone)]
            made = Case(case.worlds, case.weights, people)
            self.assertEqual(told, ("apart", (one, other), made))
            self.assertEqual(quarrel(case, rule), made)
            # They are unlike in all worlds of the sets, and alike in all others.
            self.assertIs(is_settled(made, rule, ("one", "other")), True)
            self.assertEqual(unlike_worlds(made, rule, ("other", "one")), tuple(sorted(one + other)))
            for world in one + other:
                self.assertIs(are_alike(made, rule, ("one", "other"), world), False)
        self.assertTrue(20 < found < 130, found)


class UnchangedTest(unittest.TestCase):
    def test_nothing_handed_in_is_changed(self):
        for rule in [("size",), ("chance", ("a",)), table("abc", {"abc": 1})]:
            case, value = a_case(), [["a"], ["b"]]
            before = seen_of(case)
            keeps_together(case, rule)
            splits(case, rule)
            least_split(case, rule)
            is_split(case, rule, value)
            quarrel(case, rule)
            decide(case, rule)
            self.assertEqual((seen_of(case), value), (before, [["a"], ["b"]]))
            self.assertEqual(case, a_case())

    def test_a_quarrel_is_a_case_of_its_own(self):
        case = a_case()
        told = quarrel(case, ("size",))
        told.worlds.clear()
        told.cells("one").clear()
        self.assertEqual(seen_of(case), seen_of(a_case()))
        self.assertEqual(told, quarrel(a_case(), ("size",)))


if __name__ == "__main__":
    unittest.main()
