"""Point [14] and the first paragraphs of the interface, for stages 3 to 6: which error is due for what."""

import unittest

from talkedalike.cases import Case
from talkedalike.endings import are_alike, is_paper, is_settled, paper, unlike_worlds
from talkedalike.errors import BadNumber, BadOrder, BadRule, NoPerson, NoSet, NotSettled, NoWorld
from talkedalike.rules import is_rule, word_in, word_of, words
from talkedalike.talks import after, end, said, talk, talk_length, teaches
from talkedalike.verdicts import decide, is_split, keeps_together, least_split, quarrel, splits
from tests.helpers import Refusals, cells, two_people, values_of_all_kinds
from tests.refusing import CallChecks

SIZE = ("size",)
CHANCE = ("chance", ("a",))

BAD = {
    "rule": (BadRule, values_of_all_kinds() + [
        (), [], "size", ["size"], ("size", 1), ("chance", ["a"]), ("chance", ("z",)), ("chance",), ("Size",), CHANCE + ((),),
        ("both", SIZE), ("both", SIZE, ("siz",)), ("atleast", ("a",), True, 2), ("table", ()), {"size": 1}, (SIZE,)]),
    "person": (NoPerson, values_of_all_kinds() + ["cas", "a", "", ["ann"], ("ann",), {"ann": 1}, [], ()]),
    "world": (NoWorld, values_of_all_kinds() + ["z", "ann", "ab", ["a"], ("a",), {"a": 1}, [], ()]),
    "some": (NoSet, values_of_all_kinds() + [
        (), [], "a", ["a"], ("z",), ("a", "a"), ("b", "a"), ("a", "z"), ("a", 1), {"a": 1}, (("a",),), ("a", ["b"])]),
    "order": (BadOrder, values_of_all_kinds() + [
        (), [], "ann", ["ann"], ["ann", "bob"], ("ann", "cas"), ("cas",), ("ann", 1), ("ann", ["bob"]), {"ann": 1},
        (("ann", "bob"),), ("ann", None, "bob"), ("a",), ("ann", "")]),
    "turns": (BadNumber, [value for value in values_of_all_kinds() if value not in (0, 1, 2)] + [
        True, False, -1, 1001, 10 ** 30, "3", [3], (3,), None, [], ()]),
}


def a_case():
    """A case that is not settled for chances of a."""
    return two_people("abc", "ab c", "a bc")


def a_settled_case():
    return two_people("abc", "ab c", "ab c")


def calls():
    """Each function of these stages, with arguments that are good, in the order of its parameters."""
    case, order = a_case(), ("ann", "bob", "ann")
    talking = {"case": case, "rule": CHANCE, "order": order}
    settled = {"case": a_settled_case(), "rule": CHANCE, "order": order, "world": "c"}
    ruled = {"case": case, "rule": SIZE}
    return [
        (word_of, {**ruled, "some": ("a", "c")}), (words, ruled), (word_in, {**ruled, "person": "bob", "world": "c"}),
        (after, {**ruled, "person": "bob"}), (teaches, {**ruled, "person": "ann"}), (talk, talking), (talk_length, talking),
        (end, talking), (said, {**talking, "world": "b", "turns": 4}), (is_settled, talking),
        (are_alike, {**talking, "world": "a"}), (unlike_worlds, talking), (paper, settled),
        (is_paper, {**settled, "value": ((0, 1), ("c",))}), (keeps_together, ruled), (splits, ruled), (least_split, ruled),
        (is_split, {**ruled, "value": (("a",), ("b",))}), (quarrel, ruled), (decide, ruled),
    ]


class CallsTest(CallChecks, unittest.TestCase):
    bad = BAD

    def calls(self):
        return calls()

    def test_as_many_pairs_of_refusals_as_there_are(self):
        # Two of word_of, three of word_in, .. : as many pairs as parameters make.
        self.assertEqual(self.unlike_pairs(), 1 + 3 + 1 + 1 + 3 * 1 + 6 + 1 + 3 + 1 + 3 + 3)

    def test_is_rule_refuses_nothing(self):
        self.assertIs(is_rule(a_case(), SIZE), True)
        self.assertIs(is_rule(value=SIZE, case=a_case()), True)

    def test_what_is_good_for_one_case_is_refused_for_another(self):
        other = Case(["a", "d"], [1, 1], [("ann", cells("ad")), ("cas", cells("a d"))])
        self.refused_value(BadRule, ("chance", ("b",)), word_of, other, ("chance", ("b",)), ("a",))
        self.refused_value(NoSet, ("a", "b"), word_of, other, SIZE, ("a", "b"))
        self.refused_value(BadOrder, ("ann", "bob"), talk, other, SIZE, ("ann", "bob"))
        self.refused_value(NoPerson, "bob", after, other, SIZE, "bob")
        self.refused_value(NoWorld, "b", said, other, SIZE, ("ann", "cas"), "b", 1)


class NotSettledTest(Refusals, unittest.TestCase):
    def test_a_case_that_is_not_settled(self):
        case, order = a_case(), ("ann", "bob")
        for world in "abc":
            self.refused(NotSettled, paper, case, CHANCE, order, world, attributes={})
            self.refused(NotSettled, paper, world=world, order=order, rule=CHANCE, case=case, attributes={})
            for value in [((1, 2), ("a", "b")), ((0, 1), ("c",)), *values_of_all_kinds()]:
                self.refused(NotSettled, is_paper, case, CHANCE, order, world, value, attributes={})
        self.refused(NotSettled, is_paper, value=None, world="a", order=order, rule=CHANCE, case=case, attributes={})

    def test_it_is_due_behind_the_others(self):
        good = {"case": a_case(), "rule": CHANCE, "order": ("ann", "bob"), "world": "a"}
        for parameter in ("rule", "order", "world"):
            error, values = BAD[parameter]
            for value in values:
                self.refused_value(error, value, paper, **{**good, parameter: value})
                self.refused_value(error, value, is_paper, **{**good, parameter: value}, value=value)

    def test_it_is_due_if_only_a_later_turn_of_the_order_would_teach(self):
        case = two_people("ab", "ab", "a b")
        order = ("ann", "ann", "bob")
        self.refused(NotSettled, paper, case, CHANCE, order, "a", attributes={})
        self.refused(NotSettled, is_paper, case, CHANCE, order, "a", None, attributes={})
        # Bob, who is the one that could teach, does not speak.
        self.assertEqual(paper(case, CHANCE, ("ann", "ann"), "a"), ((1, 2), ("a", "b")))

    def test_is_settled_and_are_alike_and_unlike_worlds_do_not_raise_it(self):
        case, order = a_case(), ("ann", "bob")
        self.assertIs(is_settled(case, CHANCE, order), False)
        self.assertIs(are_alike(case, CHANCE, order, "a"), False)
        self.assertEqual(unlike_worlds(case, CHANCE, order), ())


if __name__ == "__main__":
    unittest.main()
