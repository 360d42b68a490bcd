"""Point [8] and the first sentence of [11], with the interface's stage 4: turns, talks and what is said in them."""

import unittest

from talkedalike.cases import Case
from talkedalike.endings import is_settled
from talkedalike.errors import BadNumber, BadOrder
from talkedalike.talks import after, end, said, talk, talk_length, teaches
from tests import by_the_words
from tests.drawn import draw_case, draw_order, draw_rule, drawer
from tests.helpers import Refusals, cells, seen_of, small_cases, two_people

KINDS = ["chance", "atleast", "floor", "sure", "best", "size", "table"]
CHANCE = ("chance", ("c", "d"))


def sets(words):
    """Sets as case.cells tells them, written as words."""
    return list(cells(words))


def a_case():
    """By chances of c and d, of ann and bob: ann teaches, bob teaches, ann teaches, and that is all."""
    return two_people("abcdefgh", "abc def gh", "abcd efgh")


def three_people(cas):
    people = [("ann", cells("ab c")), ("bob", cells("a bc")), ("cas", cells(cas))]
    return Case(list("abc"), [1, 1, 1], people)


class TurnTest(unittest.TestCase):
    def test_all_others_part_their_cells_and_the_speaker_does_not(self):
        behind = after(three_people("abc"), ("chance", ("a",)), "ann")
        self.assertEqual([behind.cells(name) for name in ("ann", "bob", "cas")], [sets("ab c"), sets("a b c"), sets("ab c")])
        behind = after(three_people("abc"), ("chance", ("a",)), "cas")
        self.assertEqual(behind, three_people("abc"))
        behind = after(three_people("abc"), ("chance", ("c",)), "bob")
        self.assertEqual([behind.cells(name) for name in ("ann", "bob", "cas")], [sets("a b c"), sets("a bc"), sets("a bc")])

    def test_cells_with_the_same_word_are_not_told_apart(self):
        # Ann says 1/2 in each of her cells ab, cd, and 0 in ef.
        case = two_people("abcdef", "ab cd ef", "abcdef")
        behind = after(rule=("chance", ("a", "c")), person="ann", case=case)
        self.assertEqual([behind.cells("ann"), behind.cells("bob")], [sets("ab cd ef"), sets("abcd ef")])

    def test_worlds_that_are_not_neighbours_stay_together(self):
        # In bob's cell the words of a, b, c, d are 1, 2, 2, 1.
        case = two_people("dbca", "a bc d", "abcd")
        self.assertEqual(after(case, ("size",), "ann").cells("bob"), sets("ad bc"))

    def test_nobody_brings_cells_together(self):
        case = two_people("abcd", "abcd", "a b cd")
        self.assertEqual(after(case, ("size",), "ann"), case)
        self.assertIs(teaches(case, ("size",), "ann"), False)

    def test_whoever_is_alone_teaches_nothing(self):
        case = Case(list("abc"), [1, 1, 1], [("ann", cells("ab c"))])
        self.assertEqual(after(case, ("size",), "ann"), case)
        self.assertIs(teaches(case, ("size",), "ann"), False)

    def test_the_rest_of_the_case_stays(self):
        case = Case(["c", "a", "b"], [3, 1, 2], [("zoe", cells("ac b")), ("al", cells("abc"))])
        behind = after(case, ("size",), "zoe")
        self.assertEqual(seen_of(behind), (["c", "a", "b"], [3, 1, 2], ["zoe", "al"], [sets("ac b"), sets("ac b")]))

    def test_teaches(self):
        case = three_people("abc")
        told = [teaches(case, ("chance", ("a",)), name) for name in ("ann", "bob", "cas")]
        self.assertEqual(told, [True, True, False])
        for answer in told:
            self.assertIs(type(answer), bool)
        self.assertIs(teaches(person="cas", case=case, rule=("size",)), False)

    def test_the_case_stays_as_it_was(self):
        case = a_case()
        before = seen_of(case)
        self.assertNotEqual(after(case, CHANCE, "ann"), case)
        teaches(case, CHANCE, "ann")
        self.assertEqual(seen_of(case), before)
        self.assertEqual(case, a_case())

    def test_drawn_cases(self):
        draw = drawer(8)
        for _ in range(150):
            case = draw_case(draw)
            rule = draw_rule(draw, case, KINDS)
            ahead = {name: case.cells(name) for name in case.names}
            for name in case.names:
                due = by_the_words.turn(case, rule, ahead, name)
                behind = after(case, rule, name)
                self.assertEqual({whose: behind.cells(whose) for whose in behind.names}, due)
                self.assertEqual(behind.cells(name), case.cells(name))
                self.assertIs(teaches(case, rule, name), due != ahead)


class TalkTest(unittest.TestCase):
    def test_by_hand(self):
        told = talk(a_case(), CHANCE, ("ann", "bob"))
        self.assertEqual(told, [
            ("ann", {"ann": sets("abc def gh"), "bob": sets("abcd ef gh")}),
            ("bob", {"ann": sets("abc d ef gh"), "bob": sets("abcd ef gh")}),
            ("ann", {"ann": sets("abc d ef gh"), "bob": sets("abc d ef gh")}),
        ])
        self.assertEqual(talk_length(a_case(), CHANCE, ("ann", "bob")), 3)
        last = two_people("abcdefgh", "abc d ef gh", "abc d ef gh")
        self.assertEqual(end(a_case(), CHANCE, ("ann", "bob")), last)

    def test_another_order_another_talk(self):
        self.assertEqual(talk(a_case(), CHANCE, ("bob", "ann")), [
            ("bob", {"ann": sets("abc d ef gh"), "bob": sets("abcd efgh")}),
            ("ann", {"ann": sets("abc d ef gh"), "bob": sets("abc d efgh")}),
        ])
        self.assertEqual(end(a_case(), CHANCE, ("bob", "ann")), two_people("abcdefgh", "abc d ef gh", "abc d efgh"))

    def test_turns_ahead_of_the_last_one_that_teaches_may_not_teach(self):
        case = three_people("abc")
        told = talk(case, ("chance", ("a",)), ("cas", "ann", "cas", "bob"))
        self.assertEqual([speaker for speaker, _ in told], ["cas", "ann", "cas", "bob"])
        self.assertEqual(told[0][1], {"ann": sets("ab c"), "bob": sets("a bc"), "cas": sets("abc")})
        self.assertEqual(told[1][1], {"ann": sets("ab c"), "bob": sets("a b c"), "cas": sets("ab c")})
        self.assertEqual(told[2][1], told[1][1])
        self.assertEqual(told[3][1], {"ann": sets("a b c"), "bob": sets("a b c"), "cas": sets("a b c")})
        self.assertEqual(talk_length(case, ("chance", ("a",)), ("cas", "ann", "cas", "bob")), 4)

    def test_an_order_that_names_one_person_several_times(self):
        self.assertEqual(talk(a_case(), CHANCE, ("ann", "ann", "bob")), [
            ("ann", {"ann": sets("abc def gh"), "bob": sets("abcd ef gh")}),
            ("ann", {"ann": sets("abc def gh"), "bob": sets("abcd ef gh")}),
            ("bob", {"ann": sets("abc d ef gh"), "bob": sets("abcd ef gh")}),
            ("ann", {"ann": sets("abc d ef gh"), "bob": sets("abc d ef gh")}),
        ])
        self.assertEqual(talk_length(a_case(), CHANCE, ("ann", "bob", "bob", "bob")), 5)
        self.assertEqual(talk_length(a_case(), CHANCE, ("ann",) * 5 + ("bob",) * 5), 11)
        self.assertEqual(talk_length(a_case(), CHANCE, ("ann", "ann")), 1)

    def test_who_does_not_speak_hears(self):
        last = end(three_people("abc"), ("chance", ("a",)), ("ann", "bob"))
        self.assertEqual(last.cells("cas"), sets("a b c"))
        last = end(three_people("abc"), ("chance", ("a",)), ("cas",))
        self.assertEqual(last, three_people("abc"))

    def test_a_talk_of_three_rounds_whose_first_turn_does_not_teach(self):
        # Ann says 1/2 in each of her cells at first; then it is told on by one cell from both ends.
        case = two_people("abcdefgh", "ab cd ef gh", "a bc de fg h")
        self.assertEqual(talk(case, ("chance", ("b", "d", "f", "h")), ("ann", "bob")), [
            ("ann", {"ann": sets("ab cd ef gh"), "bob": sets("a bc de fg h")}),
            ("bob", {"ann": sets("a b cd ef g h"), "bob": sets("a bc de fg h")}),
            ("ann", {"ann": sets("a b cd ef g h"), "bob": sets("a b c de f g h")}),
            ("bob", {"ann": sets("a b c d e f g h"), "bob": sets("a b c de f g h")}),
            ("ann", {"ann": sets("a b c d e f g h"), "bob": sets("a b c d e f g h")}),
        ])

    def test_a_talk_by_how_many_worlds_there_are(self):
        case = two_people("abcdefgh", "ab cd ef gh", "a bc de fgh")
        self.assertEqual(talk(case, ("size",), ("bob", "ann")), [
            ("bob", {"ann": sets("a b cd e f gh"), "bob": sets("a bc de fgh")}),
            ("ann", {"ann": sets("a b cd e f gh"), "bob": sets("a b c d e f gh")}),
        ])

    def test_talks_of_length_0(self):
        for case, rule, order in [
                (Case(list("ab"), [1, 1], [("ann", cells("a b"))]), ("size",), ("ann", "ann")),
                (two_people("ab", "a b", "a b"), ("size",), ("ann", "bob")),
                (two_people("ab", "ab", "ab"), ("size",), ("bob",)),
                (two_people("ab", "ab", "a b"), ("size",), ("ann",)),
                (two_people("abcd", "ab cd", "ac bd"), ("chance", ("a", "d")), ("ann", "bob")),
                (a_case(), ("chance", ()), ("ann", "bob"))]:
            self.assertEqual(talk(case, rule, order), [])
            self.assertEqual(talk_length(case, rule, order), 0)
            self.assertEqual(end(case, rule, order), case)

    def test_by_name(self):
        named = {"order": ("bob", "ann"), "rule": CHANCE, "case": a_case()}
        self.assertEqual([len(talk(**named)), talk_length(**named), end(**named).cells("bob")], [2, 2, sets("abc d efgh")])

    def test_at_its_end_nobody_can_be_told_anything(self):
        draw = drawer(81)
        for _ in range(150):
            case = draw_case(draw)
            rule, order = draw_rule(draw, case, KINDS), draw_order(draw, case)
            last = end(case, rule, order)
            self.assertIs(is_settled(last, rule, order), True)
            self.assertEqual([teaches(last, rule, name) for name in order], [False] * len(order))
            self.assertEqual(talk(last, rule, order), [])
            self.assertEqual(end(last, rule, order), last)

    def test_drawn_cases(self):
        draw = drawer(82)
        lengths = set()
        for _ in range(150):
            case = draw_case(draw)
            rule, order = draw_rule(draw, case, KINDS), draw_order(draw, case)
            due = by_the_words.turns(case, rule, order)
            self.assertEqual(talk(case, rule, order), due)
            self.assertEqual(talk_length(case, rule, order), len(due))
            last = end(case, rule, order)
            behind = due[-1][1] if due else {name: case.cells(name) for name in case.names}
            self.assertEqual({name: last.cells(name) for name in last.names}, behind)
            self.assertEqual((last.worlds, last.weights, last.names), (case.worlds, case.weights, case.names))
            lengths.add(len(due))
        self.assertTrue({0, 1, 2, 3} <= lengths, lengths)

    def test_all_small_cases(self):
        for case in small_cases("cab"):
            for rule in [("chance", ("a",)), ("size",), ("sure", ("b", "c")), ("atleast", ("c",), 1, 2)]:
                for order in [("ann", "bob"), ("bob", "bob", "ann")]:
                    self.assertEqual(talk(case, rule, order), by_the_words.turns(case, rule, order))

    def test_as_many_people_worlds_and_turns_as_may_be(self):
        names = ["ann", "bob", "cas", "dora", "emil", "fay"]
        parts = ["abcd efgh", "abef cdgh", "aceg bdfh", "abcdefgh", "abc def gh", "a bcdefgh"]
        case = Case(list("hgfedcba"), [10 ** 30 - 1 - k for k in range(8)], list(zip(names, map(cells, parts))))
        order = ("dora", "dora", "fay", "emil", "dora", "cas", "bob", "ann", "dora", "ann")
        rule = ("best", (("go", (1, 2, 3, 4, -5, -6, -7, 8)), ("stay", (0,) * 8)))
        self.assertEqual(talk(case, rule, order), by_the_words.turns(case, rule, order))
        self.assertEqual(said(case, rule, order, "c", 25), by_the_words.row(case, rule, order, "c", 25))
        for _ in range(6):
            rule = ("both", rule, rule)
        self.assertEqual(len(said(case, rule, order, "c", 1000)), 1000)


class SaidTest(Refusals, unittest.TestCase):
    def test_by_hand(self):
        due = {
            "a": [(1, 3), (1, 2), (1, 3), (1, 3), (1, 3), (1, 3)], "d": [(1, 3), (1, 2), (1, 1), (1, 1), (1, 1), (1, 1)],
            "e": [(1, 3), (0, 1), (0, 1), (0, 1), (0, 1), (0, 1)], "g": [(0, 1)] * 6,
        }
        for world, row in due.items():
            for turns in range(7):
                self.assertEqual(said(a_case(), CHANCE, ("ann", "bob"), world, turns), row[:turns])

    def test_no_turns(self):
        for world in "abcdefgh":
            self.assertEqual(said(a_case(), CHANCE, ("ann",), world, 0), [])

    def test_as_many_turns_as_the_length(self):
        order = ("cas", "ann", "cas", "bob")
        told = said(three_people("abc"), ("chance", ("a",)), order, "b", 4)
        self.assertEqual(told, [(1, 3), (1, 2), (1, 2), (0, 1)])
        self.assertEqual(said(a_case(), CHANCE, ("bob", "ann"), "c", 2), [(1, 2), (1, 3)])

    def test_a_thousand_turns(self):
        told = said(case=a_case(), rule=CHANCE, order=("ann", "bob"), world="d", turns=1000)
        self.assertEqual(told, [(1, 3), (1, 2)] + [(1, 1)] * 998)
        # A quarrel: they go on with unlike words, each at their turns.
        case = two_people("ab", "a b", "ab")
        self.assertEqual(said(case, ("table", ((("a",), 1), (("a", "b"), 2), (("b",), 1))), ("ann", "bob", "bob"), "b", 1000),
                         [1, 2, 2] * 333 + [1])

    def test_the_speaker_is_the_next_one_in_the_order_behind_the_end_too(self):
        # Bob says 3 for ever, as nobody tells him anything; the talk has the length 1.
        case = two_people("abc", "a bc", "abc")
        rule = ("table", tuple((some, {1: 0, 2: 0, 3: 3}[len(some)]) for some in by_the_words.all_sets("abc")))
        self.assertEqual(said(case, rule, ("bob", "ann", "ann"), "a", 8), [3, 0, 0, 3, 0, 0, 3, 0])
        self.assertEqual(talk_length(case, rule, ("bob", "ann", "ann")), 0)
        self.assertEqual(said(case, ("size",), ("bob", "ann", "ann"), "b", 8), [3, 2, 2, 2, 2, 2, 2, 2])
        self.assertEqual(talk_length(case, ("size",), ("bob", "ann", "ann")), 2)
        self.assertEqual(said(case, ("size",), ("bob", "ann", "ann"), "a", 8), [3, 1, 1, 1, 1, 1, 1, 1])

    def test_numbers_that_are_none(self):
        for value in [True, False, -1, 1001, 10 ** 59, "1", None, [], (1,), {}]:
            self.refused_value(BadNumber, value, said, a_case(), CHANCE, ("ann",), "a", value)

    def test_drawn_cases(self):
        draw = drawer(83)
        for _ in range(100):
            case = draw_case(draw)
            rule, order = draw_rule(draw, case, KINDS), draw_order(draw, case)
            for world in case.worlds:
                turns = draw.randrange(20)
                due = by_the_words.row(case, rule, order, world, turns)
                self.assertEqual(repr(said(case, rule, order, world, turns)), repr(due))


class OrderTest(Refusals, unittest.TestCase):
    def test_orders_that_are_none(self):
        for order in [(), [], ["ann", "bob"], ["ann"], "ann", ("ann", "eve"), ("eve",), ("ann", "bob", ""), (("ann",),)]:
            for function in (talk, talk_length, end):
                self.refused_value(BadOrder, order, function, a_case(), CHANCE, order)
            self.refused_value(BadOrder, order, said, a_case(), CHANCE, order, "a", 1)


class UnchangedTest(unittest.TestCase):
    def test_nothing_handed_in_is_changed(self):
        case = a_case()
        before = seen_of(case)
        for order in [("ann", "bob"), ("bob",)]:
            talk(case, CHANCE, order)
            talk_length(case, CHANCE, order)
            end(case, CHANCE, order)
            said(case, CHANCE, order, "a", 9)
        self.assertEqual(seen_of(case), before)
        self.assertEqual(case, a_case())

    def test_each_list_and_dict_is_new(self):
        case, order = a_case(), ("ann", "ann", "bob")
        first, second = talk(case, CHANCE, order), talk(case, CHANCE, order)
        parts = [cells_told for told in (first, second) for _, by_name in told for cells_told in by_name.values()]
        self.assertEqual(len({id(part) for part in parts}), len(parts))
        self.assertEqual(len({id(by_name) for told in (first, second) for _, by_name in told}), len(first) * 2)
        for part in parts:
            self.assertIs(type(part), list)
            part.clear()
        for _, by_name in first:
            self.assertIs(type(by_name), dict)
            by_name.clear()
        first.clear()
        self.assertEqual(talk(case, CHANCE, order), by_the_words.turns(a_case(), CHANCE, order))
        self.assertEqual(case, a_case())

    def test_each_row_is_new(self):
        case = a_case()
        row = said(case, CHANCE, ("ann",), "a", 2)
        row.clear()
        self.assertEqual(said(case, CHANCE, ("ann",), "a", 2), [(1, 3), (1, 3)])

    def test_an_end_shares_nothing_that_can_be_changed(self):
        for order in [("ann",), ("ann", "bob")]:
            case = two_people("ab", "ab", "a b")
            last = end(case, ("size",), order)
            last.cells("ann").clear()
            last.worlds.clear()
            self.assertEqual(case, two_people("ab", "ab", "a b"))


if __name__ == "__main__":
    unittest.main()
