"""Point [6] and the first sentence of [9], with the interface's stage 3: rules and their words."""

import unittest

from talkedalike.cases import Case
from talkedalike.errors import BadRule
from talkedalike.rules import is_rule, word_in, word_of, words
from tests import by_the_words
from tests.drawn import draw_case, draw_rule, drawer
from tests.helpers import Refusals, cells, exchanged, seen_of, two_people, values_of_all_kinds

KINDS = ["chance", "atleast", "floor", "sure", "best", "size", "table"]
GREAT = 10 ** 30 - 1
TABLE = ("table", ((("a",), 0), (("a", "b"), "yes"), (("b",), -3)))


def a_case():
    """Three worlds, not in ascending order, with the weights c 1, a 2, b 3."""
    return Case(["c", "a", "b"], [1, 2, 3], [("ann", cells("ca b")), ("bob", cells("cab"))])


def two_worlds():
    return two_people("ab", "ab", "a b")


GOOD = [
    ("chance", ()), ("chance", ("a",)), ("chance", ("a", "b", "c")),
    ("atleast", ("a",), 1, 2), ("atleast", (), 0, 1), ("atleast", ("b",), 7, 2), ("atleast", ("b",), 2, 4),
    ("floor", ("a", "c"), 1), ("floor", ("b",), 10 ** 50), ("sure", ()), ("sure", ("a",)), ("size",),
    ("best", (("go", (1, 2, 3)),)), ("best", (("go", (0, -5, GREAT)), ("stay", (0, 0, 0)))),
    ("best", (("b", (1, 2, 3)), ("a", (1, 2, 3)), ("abcdefgh", (-1, -1, -1)))),
    ("both", ("size",), ("size",)), ("both", ("both", ("size",), ("sure", ("a",))), ("chance", ("b",))),
    ("both", ("size",), ("both", ("size",), ("both", ("size",), ("both", ("size",), ("both", ("size",), ("sure", ())))))),
]

# Each is a good rule for the case of c, a, b with one thing exchanged.
BAD = [
    (), ("chance",), ("chance", ("a",), ("a",)), ("chance", ["a"]), ("chance", "a"), ("chance", ("b", "a")),
    ("chance", ("a", "a")), ("chance", ("d",)), ("chance", None), ("chance", 1), ("chance", {"a": 1}), ("chance", (("a",),)),
    ["chance", ("a",)], ("Chance", ("a",)), ("chances", ("a",)), (("chance",), ("a",)), (["chance"], ("a",)),
    ({}, ("a",)), (None, ("a",)), (True, ("a",)), ("", ("a",)), ("both", ("a",)), ("table", ("a",)), ("size", ("a",)),
    ("atleast", ("a",)), ("atleast", ("a",), 1), ("atleast", ("a",), 1, 2, 3), ("atleast", ["a"], 1, 2),
    ("atleast", ("a",), True, 2), ("atleast", ("a",), False, 2), ("atleast", ("a",), 1, True), ("atleast", ("a",), -1, 2),
    ("atleast", ("a",), 1, 0), ("atleast", ("a",), 1, -2), ("atleast", ("a",), "1", 2), ("atleast", ("a",), 1, None),
    ("atleast", ("a",), (1, 2)), ("atleast", 1, 2, ("a",)), ("atleast", ("b", "a"), 1, 2), ("atleast", ("z",), 1, 2),
    ("floor", ("a",)), ("floor", ("a",), 0), ("floor", ("a",), -1), ("floor", ("a",), True), ("floor", ("a",), "10"),
    ("floor", ("a",), 1, 1), ("floor", ["a"], 1), ("floor", ("d",), 1), ("floor", 1, ("a",)), ("floor", ("a",), None),
    ("sure",), ("sure", ["a"]), ("sure", ("z",)), ("sure", ("a",), 1), ("sure", ("c", "a")),
    ("size", 1), ("size", ()), ["size"], "size", ("size", None), (("size",),), {"size": 1}, {"size"},
    ("best",), ("best", ()), ("best", []), ("best", [("go", (1, 2, 3))]), ("best", (["go", (1, 2, 3)],)),
    ("best", (("go", [1, 2, 3]),)), ("best", (("go", (1, 2)),)), ("best", (("go", (1, 2, 3, 4)),)), ("best", (("go", ()),)),
    ("best", (("go", (1, 2, True)),)), ("best", (("go", (1, 2, "3")),)), ("best", (("go", (1, None, 3)),)),
    ("best", (("Go", (1, 2, 3)),)), ("best", (("", (1, 2, 3)),)), ("best", (("abcdefghi", (1, 2, 3)),)),
    ("best", ((1, (1, 2, 3)),)), ("best", ((["go"], (1, 2, 3)),)), ("best", (("go", (1, 2, 3)), ("go", (1, 2, 3)))),
    ("best", (("go", (1, 2, 3)), ("stay", (0, 0, 0)), ("go", (4, 5, 6)))), ("best", (("go", (1, 2, 3)), ("stay",))),
    ("best", (("go", (1, 2, 3)), 5)), ("best", (("go", (1, 2, 3), 4),)), ("best", ("go", (1, 2, 3))),
    ("best", (("go", (1, 2, 3)),), 1), ("best", (((1, 2, 3), "go"),)), ("best", {"go": (1, 2, 3)}),
    ("both",), ("both", ("size",)), ("both", ("size",), ("size",), ("size",)), ("both", ("size",), ["size"]),
    ("both", ["size"], ("size",)), ("both", ("size",), "size"), ("both", (("size",), ("size",))), ("both", None, ("size",)),
    ["both", ("size",), ("size",)], ("both", ("size",), ("both", ("size",), ("chance", ["a"]))),
    ("both", ("both", ("size",), ()), ("size",)), ("both", ("both", ("size",)), ("size",)), ("both", (), ()),
    ("table", ()), TABLE, ("table", ((("a", "b", "c"), 0),)),
]

# Each is TABLE, for the worlds a and b, with one thing exchanged.
BAD_TABLES = [
    ("table",), ("table", list(TABLE[1])), ("table", TABLE[1], 1), ("table", dict(TABLE[1])), ("table", None), ("table", ()),
    ("table", TABLE[1][:2]), ("table", TABLE[1][1:]), ("table", (TABLE[1][0], TABLE[1][2])), ("table", TABLE[1][::-1]),
    ("table", TABLE[1] + TABLE[1][2:]), ("table", (((), 0),) + TABLE[1]), ("table", (TABLE[1][0], TABLE[1][2], TABLE[1][1])),
    ("table", ((("a",), 0), (("b", "a"), "yes"), (("b",), -3))), ("table", ((("a",), 0), (("a", "c"), "yes"), (("b",), -3))),
    ("table", ((("a",), 0), (("a",), "yes"), (("b",), -3))), ("table", ((["a"], 0), (("a", "b"), "yes"), (("b",), -3))),
    ("table", (("a", 0), (("a", "b"), "yes"), (("b",), -3))), ("table", ([("a",), 0], (("a", "b"), "yes"), (("b",), -3))),
    ("table", ((("a",), 0), (("a", "b"), "yes"), (("c",), -3))), ("table", ((("a",), 0), (("a", "b"), "yes"), (("b",),))),
    ("table", ((("a",), 0, 0), (("a", "b"), "yes"), (("b",), -3))), ("table", ((0, ("a",)), (("a", "b"), "yes"), (("b",), -3))),
    ("table", (None, (("a", "b"), "yes"), (("b",), -3))), ["table", TABLE[1]], ("Table", TABLE[1]), ("tables", TABLE[1]),
] + [("table", ((("a",), 0), (("a", "b"), word), (("b",), -3))) for word in (
    True, False, None, "", "Yes", "abcdefghi", "a b", "yes\n", ("yes",), (1, 2), ["yes"], [], {}, {"yes": 1}, ())]


class IsRuleTest(unittest.TestCase):
    def test_good_rules_of_each_kind(self):
        case = a_case()
        for value in GOOD:
            self.assertIs(is_rule(case, value), True, value)
            self.assertIs(is_rule(value=value, case=case), True)

    def test_with_one_thing_exchanged(self):
        case = a_case()
        for value in BAD:
            before = repr(value)
            self.assertIs(is_rule(case, value), False, value)
            self.assertIs(is_rule(case, ("both", ("size",), value)), False, value)
            self.assertIs(is_rule(case, ("both", value, ("size",))), False, value)
            self.assertEqual(repr(value), before)

    def test_tables(self):
        case = two_worlds()
        words_told = [0, 1, -1, 10 ** 59, -10 ** 59, "a", "yes", "abcdefgh"]
        for word in words_told:
            self.assertIs(is_rule(case, ("table", ((("a",), word), (("a", "b"), 1), (("b",), word)))), True)
        self.assertIs(is_rule(case, TABLE), True)
        self.assertIs(is_rule(case, ("both", TABLE, TABLE)), True)
        for value in BAD_TABLES:
            before = repr(value)
            self.assertIs(is_rule(case, value), False, value)
            self.assertIs(is_rule(case, ("both", TABLE, value)), False, value)
            self.assertEqual(repr(value), before)

    def test_tables_have_a_row_for_each_set_whatever_the_order_of_the_worlds(self):
        for worlds in ("a", "ba", "cab", "dbca", "ebdca"):
            case = two_people(worlds, worlds, worlds)
            rows = tuple((some, 7) for some in by_the_words.all_sets(worlds))
            self.assertEqual(len(rows), 2 ** len(worlds) - 1)
            self.assertIs(is_rule(case, ("table", rows)), True)
            for at in range(len(rows)):
                self.assertIs(is_rule(case, ("table", rows[:at] + rows[at + 1:])), False)
                self.assertIs(is_rule(case, ("table", rows[:at] + rows[at:at + 1] + rows[at:])), False)
                if at:
                    turned = rows[:at - 1] + (rows[at], rows[at - 1]) + rows[at + 1:]
                    self.assertIs(is_rule(case, ("table", turned)), False)

    def test_ascending_rows_are_not_those_by_length(self):
        case = a_case()
        by_length = sorted(by_the_words.all_sets("abc"), key=len)
        self.assertIs(is_rule(case, ("table", tuple((some, 0) for some in by_length))), False)

    def test_a_rule_for_one_case_is_none_for_another(self):
        one, other = a_case(), two_people("abd", "abd", "a b d")
        for value in [("chance", ("c",)), ("both", ("size",), ("sure", ("b", "c"))), ("floor", ("a", "c"), 3)]:
            self.assertEqual([is_rule(one, value), is_rule(other, value)], [True, False])
        self.assertIs(is_rule(two_worlds(), ("best", (("go", (1, 2, 3)),))), False)
        self.assertIs(is_rule(a_case(), ("best", (("go", (1, 2)),))), False)
        self.assertIs(is_rule(a_case(), TABLE), False)

    def test_values_of_all_kinds(self):
        case = a_case()
        for value in values_of_all_kinds() + [case, BadRule(("size",)), [("size",)], ("chance", case), (case,),
                                              ("both", case, case), ("table", (case,) * 7), ("best", (case,)), 10 ** 5000]:
            self.assertIs(is_rule(case, value), False)

    def test_good_rules_with_any_one_thing_exchanged(self):
        for case, goods in [(a_case(), GOOD), (two_worlds(), [TABLE, ("both", TABLE, ("size",))])]:
            for good in goods:
                for value in exchanged(good):
                    told = is_rule(case, value)
                    self.assertIs(type(told), bool)
                    if told:
                        # Only an event, a number, a name or a word was exchanged for another one.
                        self.assertEqual(len(value), len(good))
                        self.assertEqual(words(case, value), [
                            (some, by_the_words.word(case, value, some)) for some in by_the_words.all_sets(case.worlds)])


class WordOfTest(unittest.TestCase):
    def check(self, case, rule, due):
        """due: from sets, written as words, to what is told of them."""
        told = {some: word_of(case, rule, tuple(some)) for some in due}
        self.assertEqual(repr(told), repr(due))

    def test_chance(self):
        self.check(a_case(), ("chance", ("a", "b")), {
            "c": (0, 1), "a": (1, 1), "b": (1, 1), "ac": (2, 3), "bc": (3, 4), "ab": (1, 1), "abc": (5, 6)})
        self.check(a_case(), ("chance", ("a",)), {"abc": (1, 3), "ab": (2, 5), "bc": (0, 1)})
        self.check(a_case(), ("chance", ()), {"abc": (0, 1), "a": (0, 1)})
        self.check(a_case(), ("chance", ("a", "b", "c")), {"abc": (1, 1), "a": (1, 1)})

    def test_chance_with_great_weights(self):
        case = Case(["a", "b", "c"], [GREAT, GREAT, 2 * GREAT - 10 ** 30], [("ann", cells("abc"))])
        self.check(case, ("chance", ("a",)), {"ab": (1, 2)})
        case = Case(["a", "b"], [6 * 10 ** 29, 9 * 10 ** 29], [("ann", cells("ab"))])
        self.check(case, ("chance", ("a",)), {"ab": (2, 5)})
        case = Case(["a", "b"], [GREAT, 1], [("ann", cells("ab"))])
        self.check(case, ("chance", ("a",)), {"ab": (GREAT, 10 ** 30)})
        self.check(case, ("atleast", ("a",), GREAT, 10 ** 30), {"ab": True})
        self.check(case, ("atleast", ("a",), 10 ** 30, 10 ** 30), {"ab": False})
        self.check(case, ("floor", ("a",), 10 ** 30), {"ab": GREAT})
        self.check(case, ("floor", ("a",), 10 ** 30 - 1), {"ab": GREAT - 1})

    def test_atleast(self):
        self.check(a_case(), ("atleast", ("a",), 1, 3), {"abc": True, "ab": True, "bc": False, "a": True, "b": False})
        self.check(a_case(), ("atleast", ("a",), 34, 100), {"abc": False, "ab": True, "ac": True})
        self.check(a_case(), ("atleast", ("a",), 2, 6), {"abc": True, "bc": False})
        self.check(a_case(), ("atleast", (), 0, 5), {"abc": True, "b": True})
        self.check(a_case(), ("atleast", ("a",), 1, 1), {"abc": False, "a": True})
        self.check(a_case(), ("atleast", ("a", "b", "c"), 3, 2), {"abc": False, "a": False})
        self.check(a_case(), ("atleast", ("a", "b", "c"), 2, 2), {"abc": True, "a": True})

    def test_floor(self):
        self.check(a_case(), ("floor", ("a",), 10), {"abc": 3, "ab": 4, "ac": 6, "a": 10, "b": 0, "bc": 0})
        self.check(a_case(), ("floor", ("a",), 1), {"abc": 0, "ac": 0, "a": 1})
        self.check(a_case(), ("floor", ("a",), 3), {"abc": 1, "ab": 1, "ac": 2})

    def test_sure(self):
        self.check(a_case(), ("sure", ("a", "b")), {"a": "yes", "ab": "yes", "c": "no", "abc": "open", "ac": "open"})
        self.check(a_case(), ("sure", ()), {"a": "no", "abc": "no"})
        self.check(a_case(), ("sure", ("a", "b", "c")), {"a": "yes", "abc": "yes"})

    def test_best_has_pays_in_the_order_of_the_worlds(self):
        # Weights c 1, a 2, b 3; pays are for c, a, b.
        rule = ("best", (("see", (5, 0, 0)), ("ask", (0, 2, 0)), ("bet", (0, 0, 2))))
        self.check(a_case(), rule, {"c": "see", "a": "ask", "b": "bet", "ac": "see", "bc": "bet", "abc": "bet", "ab": "bet"})

    def test_best_takes_the_first_of_equal_sums(self):
        rule = ("best", (("z", (0, 0, 0)), ("b", (4, 0, 0)), ("a", (0, 2, 0)), ("c", (4, -2, 4))))
        self.check(a_case(), rule, {"c": "b", "a": "a", "ac": "b", "abc": "c", "b": "c", "ab": "c", "bc": "c"})
        self.check(a_case(), ("best", (("b", (1, 1, 1)), ("a", (1, 1, 1)))), {"a": "b", "abc": "b"})

    def test_best_with_pays_below_nought(self):
        rule = ("best", (("go", (-1, -1, -1)), ("stay", (-2, 0, -2))))
        self.check(a_case(), rule, {"c": "go", "a": "stay", "b": "go", "ac": "stay", "abc": "go", "ab": "go"})
        rule = ("best", (("go", (-GREAT, GREAT, 0)), ("stay", (0, 0, 1))))
        self.check(a_case(), rule, {"c": "stay", "ac": "go", "abc": "go", "b": "stay"})

    def test_size(self):
        self.check(a_case(), ("size",), {"c": 1, "bc": 2, "abc": 3})

    def test_table(self):
        self.check(two_worlds(), TABLE, {"a": 0, "ab": "yes", "b": -3})

    def test_both(self):
        self.check(a_case(), ("both", ("size",), ("atleast", ("a",), 1, 2)), {"a": (1, True), "abc": (3, False)})
        rule = ("both", ("both", ("size",), ("chance", ("a",))), ("both", ("sure", ("a",)), ("both", ("size",), ("size",))))
        self.check(a_case(), rule, {"a": ((1, (1, 1)), ("yes", (1, 1))), "abc": ((3, (1, 3)), ("open", (3, 3)))})
        rule = ("size",)
        for _ in range(6):
            rule = ("both", rule, ("size",))
        self.check(a_case(), rule, {"ab": ((((((2, 2), 2), 2), 2), 2), 2)})

    def test_bools_and_integers_are_told_apart(self):
        case = two_worlds()
        self.assertIs(word_of(case, ("atleast", ("a",), 1, 2), ("a",)), True)
        self.assertIs(word_of(case, ("atleast", ("a",), 1, 2), ("b",)), False)
        self.assertIs(type(word_of(case, ("size",), ("a",))), int)
        self.assertIs(type(word_of(case, ("floor", ("a",), 1), ("b",))), int)

    def test_drawn_rules(self):
        draw = drawer(3)
        for _ in range(300):
            case = draw_case(draw)
            rule = draw_rule(draw, case, KINDS, levels=3)
            self.assertIs(is_rule(case, rule), True)
            due = [(some, by_the_words.word(case, rule, some)) for some in by_the_words.all_sets(case.worlds)]
            self.assertEqual(repr(words(case, rule)), repr(due))
            self.assertEqual(repr([(some, word_of(case, rule, some)) for some, _ in due]), repr(due))


class WordsTest(unittest.TestCase):
    def test_all_sets_ascending(self):
        told = words(a_case(), ("size",))
        self.assertEqual(told, [(("a",), 1), (("a", "b"), 2), (("a", "b", "c"), 3), (("a", "c"), 2), (("b",), 1),
                                (("b", "c"), 2), (("c",), 1)])
        self.assertEqual(words(Case(["b"], [1], [("ann", cells("b"))]), ("sure", ("b",))), [(("b",), "yes")])

    def test_a_table_tells_its_rows(self):
        self.assertEqual(words(rule=TABLE, case=two_worlds()), list(TABLE[1]))

    def test_eight_worlds(self):
        case = two_people("hgfedcba", "abcdefgh", "abcdefgh")
        told = words(case, ("chance", ("a", "b", "c", "d")))
        self.assertEqual([some for some, _ in told], by_the_words.all_sets("abcdefgh"))
        self.assertEqual(dict(told)[tuple("abcdef")], (2, 3))

    def test_each_list_is_new(self):
        case = two_worlds()
        first = words(case, TABLE)
        self.assertIs(type(first), list)
        first.clear()
        self.assertEqual(words(case, TABLE), list(TABLE[1]))


class WordInTest(unittest.TestCase):
    def test_by_hand(self):
        case = a_case()
        self.assertEqual([word_in(case, ("chance", ("a",)), "ann", world) for world in "abc"], [(2, 3), (0, 1), (2, 3)])
        self.assertEqual([word_in(case, ("chance", ("a",)), "bob", world) for world in "abc"], [(1, 3)] * 3)
        self.assertEqual(word_in(world="b", person="ann", rule=("size",), case=case), 1)

    def test_drawn_cases(self):
        draw = drawer(4)
        for _ in range(50):
            case = draw_case(draw)
            rule = draw_rule(draw, case, KINDS)
            for name in case.names:
                for world in case.worlds:
                    due = by_the_words.word(case, rule, by_the_words.cell(case.cells(name), world))
                    self.assertEqual(repr(word_in(case, rule, name, world)), repr(due))


class UnchangedTest(Refusals, unittest.TestCase):
    def test_nothing_handed_in_is_changed(self):
        for good in GOOD:
            case, rule = a_case(), good
            before = seen_of(case)
            words(case, rule)
            word_of(case, rule, ("a", "b"))
            word_in(case, rule, "ann", "a")
            self.assertEqual(seen_of(case), before)
            self.assertEqual(case, a_case())

    def test_a_word_is_that_of_an_equal_case_and_rule(self):
        for rule in GOOD:
            self.assertEqual(words(a_case(), rule), words(a_case(), tuple(list(rule))))


if __name__ == "__main__":
    unittest.main()
