"""Points [18] and [19], with the interface's stage 12: the rule of a form, breaks and the cases of breaks."""

import unittest
from fractions import Fraction
from itertools import combinations

from talkedalike.always import break_of, case_of, is_break, keeps_always, rule_of
from talkedalike.cases import Case
from talkedalike.endings import are_alike, is_settled, unlike_worlds
from talkedalike.errors import BadEvent
from talkedalike.forms import BadBreak, BadForm, word_for, words_of
from talkedalike.rules import is_rule, word_of, words
from talkedalike.talks import said, talk
from talkedalike.verdicts import is_split, keeps_together
from tests import by_the_words
from tests.drawn import draw_case, draw_event, draw_form, draw_share, draw_three, drawer
from tests.helpers import Refusals, cells, exchanged, nested, seen_of, values_of_all_kinds
from tests.refusing import CallChecks
from tests.test_forms import BAD_FORMS, BAD_SHARES

FORM = ("cut", "low", (("at", (1, 3), "mid"), ("above", (1, 2), "low")))
YES = ("cut", 0, (("at", (1, 2), 1),))
ORDER = ("one", "other")
GREAT = [((0, 1), (1, 10 ** 30), (1, 1)), ((0, 1), (10 ** 30 - 1, 10 ** 30), (1, 1)),
         ((10 ** 29 + 1, 10 ** 30), (1, 3), (10 ** 30 - 2, 10 ** 30 - 1)),
         ((10 ** 30 - 3, 10 ** 30 - 2), (10 ** 30 - 2, 10 ** 30 - 1), (10 ** 30 - 1, 10 ** 30))]


def shares(most):
    return [(share.numerator, share.denominator) for share in by_the_words.shares(most)]


def threes(most):
    """All tuples of three ascending shares with bottoms up to the greatest."""
    ascending = sorted(shares(most), key=lambda share: Fraction(*share))
    return list(combinations(ascending, 3))


def breaks(form, most):
    """All breaks of a form by shares with bottoms up to the greatest."""
    told = {share: repr(by_the_words.form_word(form, Fraction(*share))) for share in shares(most)}
    return [three for three in threes(most) if told[three[0]] == told[three[2]] != told[three[1]]]


class KeepsAlwaysTest(unittest.TestCase):
    def test_forms_that_do(self):
        for form in [("cut", 0, ()), YES, ("cut", 0, (("above", (1, 2), 1),)), ("cut", "a", (("at", (1, 3), "b"), ("above", (1, 3), "c"))),
                     ("read", FORM, (("mid", "low"),)), ("pair", YES, ("cut", 5, (("above", (2, 3), 6),))), ("pair", YES, FORM),
                     ("pair", FORM, ("cut", 0, (("above", (1, 2), 1),))), ("cut", 0, (("at", (1, 3), 0), ("at", (2, 3), 1)))]:
            self.assertIs(keeps_always(form), True, form)
            self.assertIs(keeps_always(form=form), True)
            self.assertIsNone(break_of(form))
            self.assertIsNone(break_of(form=form))

    def test_forms_that_do_not(self):
        for form in [FORM, ("cut", 0, (("at", (1, 2), 1), ("above", (1, 2), 0))), ("cut", 0, (("above", (0, 1), 1), ("at", (1, 1), 0))),
                     ("read", FORM, (("low", 1),)), ("pair", FORM, FORM), ("pair", FORM, ("cut", 1, (("at", (2, 3), 1),)))]:
            self.assertIs(keeps_always(form), False, form)
            self.assertIs(is_break(form, break_of(form)), True)

    def test_drawn_forms(self):
        draw = drawer(18)
        found = set()
        for _ in range(150):
            form = draw_form(draw, draw.randrange(3), 4)
            due = breaks(form, 9)
            told = break_of(form)
            self.assertIs(keeps_always(form), told is None)
            # Between cuts with bottoms up to 4 there is always a share with a bottom up to 7.
            self.assertIs(told is None, not due)
            if told:
                self.assertIs(is_break(form, told), True)
                self.assertEqual([type(share) for share in told], [tuple] * 3)
                self.assertLess(Fraction(*told[0]), Fraction(*told[1]))
                self.assertLess(Fraction(*told[1]), Fraction(*told[2]))
                words_told = [repr(word_for(form, share)) for share in told]
                self.assertTrue(words_told[0] == words_told[2] != words_told[1])
            found.add(told is None)
        self.assertEqual(found, {True, False})

    def test_breaks_by_great_shares(self):
        for low, mid, high in GREAT:
            form = ("cut", 0, (("at", mid, 1), ("above", mid, 0)))
            told = break_of(form)
            self.assertEqual(told[1], mid)
            for value in (told, (low, mid, high), (low, mid, told[2]), (told[0], mid, high)):
                self.assertIs(is_break(form, value), True)
            self.assertIs(is_break(form, (told[0], low, high)), False)


class IsBreakTest(unittest.TestCase):
    def test_all_tuples_of_small_shares(self):
        for form in [FORM, YES, ("pair", FORM, YES), ("read", FORM, (("low", "mid"),)), ("cut", 1, (("at", (1, 1), 2),))]:
            due = breaks(form, 5)
            for three in threes(5):
                self.assertIs(is_break(form, three), three in due)
                self.assertIs(is_break(value=three, form=form), three in due)
                self.assertIs(is_break(form, three[::-1]), False)

    def test_with_one_thing_exchanged(self):
        due = breaks(FORM, 10)
        for good in [((0, 1), (1, 2), (1, 1)), ((1, 4), (1, 3), (2, 3)), ((1, 5), (2, 5), (3, 5))]:
            self.assertIn(good, due)
            for value in exchanged(good) + [good[::-1], list(good), (good,), good[:2], good + ((1, 1),), good[0]]:
                self.assertIs(is_break(FORM, value), repr(value) in [repr(three) for three in due], value)

    def test_values_of_any_kind(self):
        case = Case(["a"], [1], [("ann", (("a",),))])
        for value in values_of_all_kinds() + [
                case, (case,) * 3, ((0, 1), case, (1, 1)), [(0, 1), (1, 2), (1, 1)], ((0, 1), (2, 4), (1, 1)), ((0, 2), (1, 2), (1, 1)),
                ((0, 1), (1, 2), (True, 1)), ((0, 1), [1, 2], (1, 1)), ((0, 1), (1, 2)), (), [], ((0, 1), (1, 2), (2, 2)),
                ((0, 1), (1, 2), (3, 2)), ((0, 1), (0, 1), (1, 1)), ((0, 1), (1, 2), (1, 2)), BadBreak(1), FORM]:
            before = repr(value)
            self.assertIs(is_break(FORM, value), False, value)
            self.assertEqual(repr(value), before)


class CaseOfTest(Refusals, unittest.TestCase):
    def check(self, parts):
        """Check by the words of the document that what is told is a case of a break."""
        told = case_of(parts)
        self.assertEqual((type(told), len(told)), (tuple, 2))
        case, event = told
        self.assertIs(type(case), Case)
        self.assertEqual(case.names, ["one", "other"])
        self.assertLessEqual(len(case.worlds), 4)
        self.assertEqual(case.cells("other"), [tuple(sorted(case.worlds))])
        self.assertEqual(len(case.cells("one")), 2)
        weight = dict(zip(case.worlds, case.weights))
        self.assertEqual((type(event), list(event)), (tuple, sorted(set(event))))

        def share(some):
            part = Fraction(sum(weight[world] for world in some if world in event), sum(weight[world] for world in some))
            return (part.numerator, part.denominator)
        self.assertEqual(share(case.worlds), parts[1])
        self.assertEqual(sorted(share(some) for some in case.cells("one")), sorted([parts[0], parts[2]]))
        self.assertEqual([word_of(case, ("chance", event), some) for some in case.cells("other")], [parts[1]])
        return case, event

    def test_all_small_shares(self):
        for parts in threes(7):
            self.check(parts)

    def test_nothing_and_all(self):
        case, event = self.check(((0, 1), (1, 2), (1, 1)))
        self.assertEqual((len(case.worlds), len(event)), (2, 1))
        self.assertEqual(len(self.check(((0, 1), (1, 3), (1, 2)))[0].worlds), 3)
        self.assertEqual(len(self.check(((1, 4), (1, 3), (1, 1)))[0].worlds), 3)
        self.assertEqual(len(self.check(((1, 4), (1, 3), (1, 2)))[0].worlds), 4)

    def test_great_bottoms(self):
        for parts in GREAT:
            self.check(parts)

    def test_by_name_and_always_the_same(self):
        parts = ((1, 4), (1, 3), (2, 3))
        self.assertEqual(case_of(parts=parts), case_of(parts))

    def test_refused(self):
        bad = values_of_all_kinds() + [
            (), ((0, 1), (1, 2)), ((0, 1), (1, 2), (1, 1), (1, 1)), [(0, 1), (1, 2), (1, 1)], ((0, 1), (1, 2), [1, 1]),
            ((1, 1), (1, 2), (0, 1)), ((0, 1), (0, 1), (1, 1)), ((0, 1), (1, 1), (1, 1)), ((0, 1), (1, 2), (1, 3)),
            ((1, 3), (1, 3), (1, 3)), ((0, 1), 1, (1, 1)), nested(3)] + [((0, 1), value, (1, 1)) for value in BAD_SHARES]
        for value in bad + [tuple(three[::-1]) for three in threes(3)]:
            self.refused_value(BadBreak, value, case_of, value)
            self.refused_value(BadBreak, value, case_of, parts=value)


class RuleOfTest(unittest.TestCase):
    def test_by_hand(self):
        case = Case(["b", "a", "c"], [1, 1, 2], [("ann", cells("abc"))])
        # The chances of c: nothing of a, b and ab, half of all, two thirds of ac and bc, and all of c.
        due = ("table", ((("a",), 0), (("a", "b"), 0), (("a", "b", "c"), 1), (("a", "c"), 0), (("b",), 0), (("b", "c"), 0), (("c",), 0)))
        self.assertEqual(rule_of(FORM, case, ("c",)), due)
        self.assertEqual(rule_of(event=("c",), case=case, form=FORM), due)
        due = ("table", tuple((some, 0) for some in by_the_words.all_sets("abc")))
        self.assertEqual(rule_of(FORM, case, ()), due)

    def test_numbers_are_those_of_the_words_in_their_order(self):
        case = Case(["a", "b"], [1, 1], [("ann", cells("ab"))])
        form = ("cut", 5, (("above", (0, 1), 9), ("at", (1, 3), 7), ("at", (1, 1), 1)))
        self.assertEqual(words_of(form), [5, 9, 7, 1])
        self.assertEqual(rule_of(form, case, ("b",)), ("table", ((("a",), 0), (("a", "b"), 2), (("b",), 3))))

    def test_against_the_chances_of_all_sets(self):
        draw = drawer(181)
        for _ in range(80):
            case, form = draw_case(draw), draw_form(draw, draw.randrange(3))
            event = draw_event(draw, case)
            rule = rule_of(form, case, event)
            self.assertIs(is_rule(case, rule), True)
            told = [repr(word) for word in words_of(form)]
            due = tuple((some, told.index(repr(by_the_words.form_word(form, Fraction(*by_the_words.word(case, ("chance", event), some))))))
                        for some in by_the_words.all_sets(case.worlds))
            self.assertEqual(repr(rule), repr(("table", due)))
            self.assertEqual(words(case, rule), list(due))

    def test_a_form_that_keeps_always_keeps_together(self):
        draw = drawer(182)
        found = 0
        for _ in range(150):
            case, form = draw_case(draw), draw_form(draw, draw.randrange(3))
            if keeps_always(form):
                found += 1
                self.assertIs(keeps_together(case, rule_of(form, case, draw_event(draw, case))), True)
        self.assertGreater(found, 30)


class QuarrelTest(unittest.TestCase):
    def test_the_quarrel_of_a_break_lasts_and_the_rule_of_the_form_splits_there(self):
        draw = drawer(19)
        found = 0
        for _ in range(120):
            form = draw_form(draw, draw.randrange(3))
            if not keeps_always(form):
                found += 1
                self.check(form, break_of(form))
        self.assertGreater(found, 30)

    def test_of_great_bottoms(self):
        for parts in GREAT:
            cut = [("at", parts[1], 1), ("above", parts[1], 0)]
            form = ("cut", 0, tuple(cut))
            self.assertIs(is_break(form, parts), True)
            self.check(form, parts)

    def test_of_any_break(self):
        draw = drawer(191)
        for _ in range(60):
            parts = draw_three(draw, 40)
            form = ("cut", "no", (("above", parts[0], "yes"), ("at", parts[2], "no")))
            self.check(form, parts)

    def check(self, form, parts):
        case, event = case_of(parts)
        rule = rule_of(form, case, event)
        split = tuple(case.cells("one"))
        self.assertIs(is_split(case, rule, split), True)
        for order in [ORDER, ORDER[::-1], ("one", "one", "other")]:
            self.assertEqual(talk(case, rule, order), [])
            self.assertIs(is_settled(case, rule, order), True)
            self.assertEqual(unlike_worlds(case, rule, order), tuple(sorted(case.worlds)))
        told = words_of(form)
        for world in case.worlds:
            row = said(case, rule, ORDER, world, 20)
            self.assertEqual(row, [told.index(word_for(form, parts[0])), told.index(word_for(form, parts[1]))] * 10)
            self.assertIs(are_alike(case, rule, ORDER, world), False)


A_CASE = Case(["a", "b"], [1, 1], [("ann", (("a", "b"),))])
BAD = {
    "form": (BadForm, values_of_all_kinds() + BAD_FORMS),
    "event": (BadEvent, values_of_all_kinds() + [[], ["a"], "a", ("z",), ("b", "a"), ("a", "a"), ("a", 1), ("a", ["b"]), {"a": 1}, (("a",),)]),
}


class RefusalsTest(CallChecks, unittest.TestCase):
    bad = BAD

    def calls(self):
        return [(keeps_always, {"form": FORM}), (break_of, {"form": FORM}), (is_break, {"form": FORM, "value": ((0, 1), (1, 2), (1, 1))}),
                (rule_of, {"form": FORM, "case": Case(["a", "b"], [1, 1], [("ann", (("a", "b"),))]), "event": ("a",)})]

    def test_as_many_pairs_of_refusals_as_there_are(self):
        self.assertEqual(self.unlike_pairs(), 1)

    def test_nothing_handed_in_is_changed(self):
        before = seen_of(A_CASE)
        rule_of(FORM, A_CASE, ("a",))
        self.assertEqual(seen_of(A_CASE), before)
        case, _ = case_of(((0, 1), (1, 2), (1, 1)))
        case.worlds.clear()
        case.cells("one").clear()
        self.assertEqual(seen_of(case), seen_of(case_of(((0, 1), (1, 2), (1, 1)))[0]))

    def test_drawn_shares_have_words(self):
        draw = drawer(192)
        for _ in range(50):
            self.assertIn(word_for(FORM, draw_share(draw, 30)), words_of(FORM))


if __name__ == "__main__":
    unittest.main()
