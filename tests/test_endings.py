"""Point [9], with the interface's stage 5: settled cases, alike and unlike worlds, papers."""

import unittest

from talkedalike.cases import Case
from talkedalike.endings import are_alike, is_paper, is_settled, paper, unlike_worlds
from talkedalike.errors import NotSettled
from talkedalike.rules import words
from talkedalike.talks import end
from tests import by_the_words
from tests.drawn import draw_case, draw_order, draw_rule, drawer
from tests.helpers import cells, exchanged, seen_of, two_people, values_of_all_kinds

KINDS = ["chance", "atleast", "floor", "sure", "best", "size", "table"]
ORDER = ("ann", "bob")
CHANCE = ("chance", ("a", "d"))
ALL = ("a", "b", "c", "d")


def a_case():
    """Settled for chances of a and d: all say 1/2 everywhere."""
    return two_people("abcd", "ab cd", "ac bd")


def a_quarrel():
    """Settled for sizes: of a and b ann says 1 and bob says 2, for ever; of c and d both say 2."""
    return two_people("abcd", "a b cd", "ab cd")


class IsSettledTest(unittest.TestCase):
    def test_settled_cases(self):
        for case, rule, order in [
                (a_case(), CHANCE, ORDER), (a_quarrel(), ("size",), ORDER), (two_people("ab", "a b", "a b"), ("size",), ORDER),
                (two_people("ab", "ab", "a b"), ("size",), ("ann",)), (two_people("ab", "ab", "a b"), ("chance", ()), ORDER),
                (Case(["a", "b"], [1, 1], [("ann", cells("a b"))]), ("chance", ("a",)), ("ann",))]:
            self.assertIs(is_settled(case, rule, order), True)
            self.assertIs(is_settled(order=order, rule=rule, case=case), True)

    def test_other_cases(self):
        for case, rule, order in [
                (a_case(), ("chance", ("a",)), ORDER), (a_case(), ("chance", ("a",)), ("bob",)),
                (a_case(), ("sure", ("a", "b")), ("bob", "bob", "ann")),
                (two_people("ab", "ab", "a b"), ("chance", ("a",)), ("ann", "ann", "bob"))]:
            self.assertIs(is_settled(case, rule, order), False)

    def test_who_does_not_speak_may_have_been_able_to_teach(self):
        case = two_people("ab", "ab", "a b")
        told = [is_settled(case, ("chance", ("a",)), order) for order in [("ann",), ("bob",), ("ann", "bob")]]
        self.assertEqual(told, [True, False, False])

    def test_who_does_not_speak_can_be_taught(self):
        people = [("ann", cells("a b")), ("bob", cells("a b")), ("cas", cells("ab"))]
        case = Case(["a", "b"], [1, 1], people)
        self.assertIs(is_settled(case, ("chance", ("a",)), ORDER), False)


class AreAlikeTest(unittest.TestCase):
    def test_in_the_case_as_it_stands(self):
        case = two_people("abc", "ab c", "a bc")
        told = {world: are_alike(case, ("chance", ("a",)), ORDER, world) for world in "abc"}
        self.assertEqual(told, {"a": False, "b": False, "c": True})
        self.assertEqual([are_alike(a_case(), CHANCE, ORDER, world) for world in "abcd"], [True] * 4)
        told = [are_alike(world=world, case=a_quarrel(), order=ORDER, rule=("size",)) for world in "abcd"]
        self.assertEqual(told, [False, False, True, True])

    def test_only_those_who_are_named_count(self):
        for world in "abcd":
            self.assertIs(are_alike(a_quarrel(), ("size",), ("ann",), world), True)
            self.assertIs(are_alike(a_quarrel(), ("size",), ("bob", "bob"), world), True)
        people = [("ann", cells("ab")), ("bob", cells("a b")), ("cas", cells("ab"))]
        case = Case(["a", "b"], [1, 1], people)
        told = [are_alike(case, ("size",), order, "a") for order in [("ann", "cas"), ("cas", "ann", "bob"), ("bob", "cas")]]
        self.assertEqual(told, [True, False, False])

    def test_drawn_cases(self):
        draw = drawer(9)
        for _ in range(150):
            case = draw_case(draw)
            rule, order = draw_rule(draw, case, KINDS), draw_order(draw, case)
            for world in case.worlds:
                told = {repr(by_the_words.word(case, rule, by_the_words.cell(case.cells(name), world))) for name in order}
                self.assertIs(are_alike(case, rule, order, world), len(told) == 1)


class UnlikeWorldsTest(unittest.TestCase):
    def test_at_the_end_of_the_talk(self):
        case = two_people("abc", "ab c", "a bc")
        self.assertEqual(unlike_worlds(case, ("chance", ("a",)), ORDER), ())
        # Ann tells bob b apart from c; from then on she says 2 in a and b, and he says 1.
        self.assertEqual(unlike_worlds(case, ("size",), ORDER), ("a", "b"))
        self.assertEqual(unlike_worlds(case, ("size",), ("bob", "ann")), ("b", "c"))
        self.assertEqual(unlike_worlds(a_quarrel(), ("size",), ORDER), ("a", "b"))
        self.assertEqual(unlike_worlds(a_quarrel(), ("size",), ("bob",)), ())

    def test_what_is_told_is_the_end_not_the_case_as_it_stands(self):
        # In a both say 2, until ann, who says 3 in c, tells bob that it is not c.
        case = two_people("abcde", "ab cde", "ac b d e")
        self.assertEqual([are_alike(case, ("size",), ORDER, world) for world in "abcde"], [True] + [False] * 4)
        self.assertEqual(unlike_worlds(case, ("size",), ORDER), ("a", "b", "c", "d", "e"))
        # In c they are unlike, until nobody has two worlds in a cell any more.
        case = two_people("abc", "ab c", "a bc")
        rule = ("table", tuple((some, 2 if some in [("b",), ("c",)] else 1) for some in by_the_words.all_sets("abc")))
        self.assertEqual([are_alike(case, rule, ORDER, world) for world in "abc"], [True, True, False])
        self.assertEqual(unlike_worlds(case, rule, ORDER), ())

    def test_ascending_whatever_the_order_of_the_worlds(self):
        case = two_people("dbca", "ab c d", "abcd")
        rule = ("table", tuple((some, 1 if some == tuple("abcd") else 0) for some in by_the_words.all_sets("abcd")))
        self.assertEqual(unlike_worlds(case, rule, ORDER), ("a", "b", "c", "d"))
        self.assertEqual(unlike_worlds(order=ORDER, case=case, rule=rule), ("a", "b", "c", "d"))

    def test_drawn_cases(self):
        draw = drawer(91)
        unlike = 0
        for _ in range(200):
            case = draw_case(draw)
            rule, order = draw_rule(draw, case, ["size", "table", "chance"]), draw_order(draw, case)
            last = end(case, rule, order)
            due = tuple(world for world in sorted(case.worlds) if not are_alike(last, rule, order, world))
            self.assertEqual(unlike_worlds(case, rule, order), due)
            unlike += bool(due)
        self.assertTrue(15 < unlike < 185, unlike)


class PaperTest(unittest.TestCase):
    def test_by_hand(self):
        for world in ALL:
            self.assertEqual(paper(a_case(), CHANCE, ORDER, world), ((1, 2), ALL))
            self.assertIs(is_paper(a_case(), CHANCE, ORDER, world, ((1, 2), ALL)), True)
        self.assertIsNone(paper(a_quarrel(), ("size",), ORDER, "a"))
        self.assertIsNone(paper(world="b", order=ORDER, rule=("size",), case=a_quarrel()))
        self.assertEqual(paper(a_quarrel(), ("size",), ORDER, "c"), (2, ("c", "d")))

    def test_only_cells_of_those_who_are_named_are_to_be_whole(self):
        case = a_quarrel()
        self.assertEqual([value for value in self.right(case, ("size",), ("ann",), "a")], [(1, ("a",)), (1, ("a", "b"))])
        self.assertEqual(self.right(case, ("size",), ("bob",), "a"), [(2, ("a", "b")), (2, ("a", "b", "c", "d"))])
        self.assertEqual(self.right(case, ("size",), ("bob", "ann", "bob"), "a"), [])

    def right(self, case, rule, order, world):
        """All papers, each of which is found to be right, while those with other words and sets are not."""
        due = by_the_words.papers(case, rule, order, world)
        tried = [word for _, word in words(case, rule)]
        tried += [True, False, 0, 1, 2, (1, 1), (0, 1), "yes", "no", "open", None]
        for some in by_the_words.all_sets(case.worlds):
            for word in tried:
                value = (word, some)
                self.assertIs(is_paper(case, rule, order, world, value), repr(value) in [repr(one) for one in due])
        return due

    def test_papers_that_are_right_and_not_told(self):
        case = two_people("abcd", "a b cd", "ab c d")
        rule = ("chance", ("a", "b", "c", "d"))
        for some in by_the_words.all_sets("abcd"):
            whole = some in [("a", "b"), ("a", "b", "c", "d"), ("c", "d")]
            for world in "abcd":
                due = whole and world in some
                self.assertIs(is_paper(case, rule, ORDER, world, ((1, 1), some)), due)
        self.assertIn(paper(case, rule, ORDER, "a")[1], [("a", "b"), ("a", "b", "c", "d")])

    def test_with_one_thing_exchanged(self):
        tables = ("table", tuple((some, 1) for some in by_the_words.all_sets("abcd")))
        for rule in [CHANCE, ("atleast", ("a", "d"), 1, 2), ("size",), ("both", ("size",), ("atleast", (), 0, 1)), tables,
                     ("sure", ("a", "d")), ("best", (("go", (1, 0, 0, 1)),))]:
            case = a_case()
            self.assertIs(is_settled(case, rule, ORDER), True)
            good = paper(case, rule, ORDER, "b")
            self.assertIs(is_paper(value=good, world="b", order=ORDER, rule=rule, case=case), True)
            due = [repr(one) for one in by_the_words.papers(case, rule, ORDER, "b")]
            self.assertIn(repr(good), due)
            for value in exchanged(good) + [good[::-1], [good], (good,), good + (1,), list(good), good[:1], good[1]]:
                before = repr(value)
                self.assertIs(is_paper(case, rule, ORDER, "b", value), repr(value) in due, value)
                self.assertEqual(repr(value), before)

    def test_sets_that_are_none(self):
        for some in [(), [], list(ALL), ALL[::-1], ("a", "b", "c", "z"), ALL + ("d",), "abcd", None, {}, ("a", ["b"]), 1,
                     (ALL,), (("a",), ("b",), ("c",), ("d",)), ("a", "b", "c"), ("a",), ("a", "b"), ("a", "c")]:
            self.assertIs(is_paper(a_case(), CHANCE, ORDER, "a", ((1, 2), some)), False)

    def test_values_of_all_kinds(self):
        case = a_case()
        others = [case, NotSettled(), [(1, 2), ALL], ((1, 2), case), (case, ALL), {(1, 2): ALL}, ALL, (1, 2), (10 ** 5000, ALL)]
        for value in values_of_all_kinds() + others + [(one, ALL) for one in values_of_all_kinds() if one != (1, 2)]:
            self.assertIs(is_paper(case, CHANCE, ORDER, "a", value), False)

    def test_words_that_are_equal_but_not_one(self):
        case = Case(["a", "b"], [1, 1], [("ann", cells("a b")), ("bob", cells("a b"))])
        for rule, good, equal in [
                (("size",), 1, True), (("atleast", ("a",), 1, 1), True, 1), (("atleast", ("b",), 1, 1), False, 0),
                (("floor", ("a",), 1), 1, True), (("floor", ("b",), 1), 0, False), (("chance", ("a",)), (1, 1), (True, True)),
                (("chance", ("b",)), (0, 1), (False, 1)), (("both", ("size",), ("atleast", (), 0, 1)), (1, True), (1, 1)),
                (("both", ("size",), ("atleast", (), 0, 1)), (1, True), (True, True)),
                (("both", ("both", ("size",), ("size",)), ("size",)), ((1, 1), 1), ((1, True), 1)),
                (("table", ((("a",), 1), (("a", "b"), 5), (("b",), 0))), 1, True)]:
            self.assertEqual(good, equal)
            self.assertEqual(repr(paper(case, rule, ORDER, "a")[0]), repr(good))
            self.assertIs(is_paper(case, rule, ORDER, "a", (good, ("a",))), True)
            self.assertIs(is_paper(case, rule, ORDER, "a", (equal, ("a",))), False)

    def test_drawn_cases(self):
        draw = drawer(92)
        found = 0
        for _ in range(60):
            case = draw_case(draw, most_worlds=4)
            rule, order = draw_rule(draw, case, KINDS), draw_order(draw, case)
            case = end(case, rule, order)
            for world in case.worlds:
                due = self.right(case, rule, order, world)
                told = paper(case, rule, order, world)
                if due:
                    self.assertIn(repr(told), [repr(one) for one in due])
                else:
                    self.assertIsNone(told)
                self.assertIs(told is not None, are_alike(case, rule, order, world))
                found += 1
        self.assertTrue(found > 100)


class UnchangedTest(unittest.TestCase):
    def test_nothing_handed_in_is_changed(self):
        case, value = a_case(), [(1, 2), ["a", "b", "c", "d"]]
        before = seen_of(case)
        is_settled(case, ("size",), ORDER)
        are_alike(case, CHANCE, ORDER, "a")
        unlike_worlds(case, ("chance", ("a",)), ORDER)
        paper(case, CHANCE, ORDER, "a")
        is_paper(case, CHANCE, ORDER, "a", value)
        self.assertEqual(seen_of(case), before)
        self.assertEqual(case, a_case())
        self.assertEqual(value, [(1, 2), ["a", "b", "c", "d"]])

    def test_equal_questions_have_equal_answers(self):
        draw = drawer(93)
        for _ in range(30):
            case = draw_case(draw)
            rule, order = draw_rule(draw, case, KINDS), draw_order(draw, case)
            case = end(case, rule, order)
            again = Case(case.worlds, case.weights, [(name, tuple(case.cells(name))[::-1]) for name in case.names])
            for world in case.worlds:
                self.assertEqual(paper(case, rule, order, world), paper(again, rule, order, world))


if __name__ == "__main__":
    unittest.main()
