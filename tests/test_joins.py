"""Point [20], with the interface's stage 13: classes of a form, good ones, the least ones, joins."""

import unittest
from fractions import Fraction

from talkedalike.always import keeps_always
from talkedalike.cases import Case
from talkedalike.forms import BadClasses, BadForm, is_form, starts, word_for, words_of
from talkedalike.joins import are_joins, is_good, is_whole, joins, least_classes, read_by
from tests import by_the_words
from tests.drawn import draw_form, draw_three, drawer
from tests.helpers import exchanged, values_of_all_kinds
from tests.refusing import CallChecks
from tests.test_forms import BAD_FORMS

FORM = ("cut", "low", (("at", (1, 3), "mid"), ("above", (1, 2), "low"), ("at", (1, 1), "all")))
YES = ("cut", 0, (("at", (1, 2), 1),))
# The words come as 1 2 3 1 4 5 4 6 7 6 8.
LONG = ("cut", 1, tuple(("at", (number, 20), word) for number, word in zip([1, 3, 7, 9, 11, 13, 17, 19], [2, 3, 1, 4, 5, 4, 6, 7]))
        + (("above", (19, 20), 6), ("at", (1, 1), 8)))
# The words come as 1 2 1 3 2 4 3 5: each pair overlaps the next one.
LINKED = ("cut", 1, tuple(("at", (number, 20), word) for number, word in zip([1, 3, 7, 9, 11, 13, 17], [2, 1, 3, 2, 4, 3, 5])))


def as_sets(classes):
    return {frozenset(map(repr, some)) for some in classes}


class LeastClassesTest(unittest.TestCase):
    def test_by_hand(self):
        for form, due in [
                (FORM, [["low", "mid"], ["all"]]), (YES, [[0], [1]]), (("cut", 7, ()), [[7]]), (LONG, [[1, 2, 3], [4, 5], [6, 7], [8]]),
                (LINKED, [[1, 2, 3, 4], [5]]), (("read", FORM, (("mid", "low"),)), [["low"], ["all"]]),
                (("read", FORM, (("all", "mid"),)), [["low", "mid"]]), (("pair", YES, YES), [[(0, 0)], [(1, 1)]]),
                (("pair", FORM, YES), [[("low", 0)], [("mid", 0)], [("mid", 1)], [("low", 1)], [("all", 1)]])]:
            self.assertEqual(least_classes(form), due)
            self.assertEqual(least_classes(form=form), due)
            self.assertIs(is_good(form, due), True)

    def test_a_form_keeps_always_just_if_each_word_is_a_least_class(self):
        draw = drawer(20)
        for _ in range(150):
            form = draw_form(draw, draw.randrange(3))
            self.assertIs(keeps_always(form), least_classes(form) == [[word] for word in words_of(form)])

    def test_within_all_good_ones(self):
        draw = drawer(201)
        found = set()
        for _ in range(150):
            form = draw_form(draw, draw.randrange(3))
            told = words_of(form)
            if len(told) > 5:
                continue
            least = least_classes(form)
            self.assertIs(by_the_words.is_good(form, least), True)
            for classes in by_the_words.class_lists(told):
                due = by_the_words.is_good(form, classes)
                self.assertIs(is_good(form, classes), due)
                if due:
                    self.assertTrue(all(any(some <= one for one in as_sets(classes)) for some in as_sets(least)))
            self.assertEqual([word for word in told if [word] not in least and not any(word in some for some in least)], [])
            # The words stand in the order of all words, and the classes in that of their first words.
            for some in least:
                self.assertEqual(some, [word for word in told if word in some])
            firsts = [told.index(some[0]) for some in least]
            self.assertEqual(firsts, sorted(firsts))
            found.add((len(told), len(least)))
        self.assertTrue({(1, 1), (2, 1), (2, 2), (3, 1), (3, 2), (3, 3)} <= found, found)

    def test_each_list_is_new(self):
        for form in (FORM, LONG):
            first, second = least_classes(form), least_classes(form)
            parts = [some for told in (first, second) for some in told] + [first, second]
            self.assertEqual(len({id(part) for part in parts}), len(parts))
            for some in first:
                some.clear()
            first.clear()
            self.assertEqual(least_classes(form), second)


class IsGoodTest(unittest.TestCase):
    def test_by_hand(self):
        for value, due in [
                ([["low", "mid"], ["all"]], True), ([["all"], ["mid", "low"]], True), ([["all", "mid", "low"]], True),
                ([["low"], ["mid"], ["all"]], False), ([["low", "all"], ["mid"]], False), ([["low"], ["mid", "all"]], False),
                ([["low", "mid"]], False), ([["low", "mid"], ["all"], []], False), ([["low", "mid"], ["all"], ["all"]], False),
                ([["low", "mid", "low"], ["all"]], False), ([["low", "mid"], ["all", "none"]], False), ([], False), ([[]], False),
                ((["low", "mid"], ["all"]), False), ([("low", "mid"), ["all"]], False), ([["low", "mid"], "all"], False),
                (["low", "mid", "all"], False), ({"low": "mid"}, False), ([{"low": 1, "mid": 1}, ["all"]], False)]:
            before = repr(value)
            self.assertIs(is_good(FORM, value), due, value)
            self.assertIs(is_good(value=value, form=FORM), due)
            self.assertEqual(repr(value), before)

    def test_with_one_thing_exchanged(self):
        for form in (FORM, ("cut", 0, (("at", (1, 2), 1), ("at", (1, 1), 2))), ("pair", YES, YES)):
            for classes in by_the_words.class_lists(words_of(form)):
                for value in exchanged(classes):
                    self.assertIs(is_good(form, value), self.are_classes(form, value) and by_the_words.is_good(form, value), value)

    def are_classes(self, form, value):
        if type(value) is not list or not all(type(some) is list and some for some in value):
            return False
        return sorted(repr(word) for some in value for word in some) == sorted(map(repr, words_of(form)))

    def test_values_of_any_kind(self):
        case = Case(["a"], [1], [("ann", (("a",),))])
        one = ("cut", 1, ())
        for value in values_of_all_kinds() + [case, [case], [[case]], [["low", "mid"], [case]], BadClasses(1), [[["low"]]], [[("low",)]]]:
            self.assertIs(is_good(FORM, value), False)
            self.assertIs(is_good(one, value), False)
        self.assertIs(is_good(one, [[1]]), True)
        for value in ([[True]], [[1, 1]], [["1"]], [[(1,)]], [[1], [1]]):
            self.assertIs(is_good(one, value), False)


class ReadByTest(unittest.TestCase):
    def test_classes_in_any_order(self):
        for classes, due in [
                ([["low", "mid"], ["all"]], [0, 0, 1]), ([["all"], ["mid", "low"]], [1, 1, 0]), ([["all", "mid", "low"]], [0, 0, 0]),
                ([["mid"], ["all"], ["low"]], [2, 0, 1]), ([["low"], ["mid"], ["all"]], [0, 1, 2])]:
            before = repr(classes)
            told = read_by(FORM, classes)
            self.assertEqual(told, ("read", FORM, tuple(zip(["low", "mid", "all"], due))))
            self.assertEqual(read_by(classes=classes, form=FORM), told)
            self.assertEqual(repr(classes), before)
            self.assertIs(is_form(told), True)
            classes.clear()
            self.assertEqual(told[2], tuple(zip(["low", "mid", "all"], due)))

    def test_a_form_read_by_good_classes_keeps_always(self):
        draw = drawer(202)
        for _ in range(100):
            form = draw_form(draw, draw.randrange(3))
            told = words_of(form)
            self.assertIs(keeps_always(read_by(form, least_classes(form))), True)
            if len(told) <= 4:
                for classes in by_the_words.class_lists(told):
                    draw.shuffle(classes)
                    read = read_by(form, classes)
                    self.assertIs(keeps_always(read), by_the_words.is_good(form, classes))
                    for _, share, word in starts(form):
                        number = [at for at, some in enumerate(classes) if word in some][0]
                        if word_for(form, share) == word:
                            self.assertEqual(word_for(read, share), number)


class JoinsTest(unittest.TestCase):
    def test_as_long_as_classes_are_lost(self):
        draw = drawer(203)
        found = set()
        for form in [FORM, YES, LONG, LINKED] + [draw_form(draw, draw.randrange(4)) for _ in range(200)]:
            told = joins(form)
            self.assertIs(type(told), list)
            self.assertIs(are_joins(form, told), True)
            self.assertIs(is_whole(form, told), True)
            self.assertEqual(len(told), len(words_of(form)) - len(least_classes(form)))
            behind = self.behind(form, told)
            self.assertEqual(as_sets(behind), as_sets(least_classes(form)))
            for number in range(len(told)):
                self.assertIs(are_joins(form, told[:number]), True)
                self.assertIs(is_whole(form, told[:number]), False)
            found.add(min(len(told), 4))
        self.assertEqual(found, {0, 1, 2, 3, 4})

    def behind(self, form, value):
        """The classes behind a row of joins, by the words of the document, None if it is none."""
        classes = [[word] for word in words_of(form)]
        if type(value) is not list:
            return None
        for join in value:
            if not self.are_three(join):
                return None
            told = [by_the_words.form_word(form, Fraction(*share)) for share in join]
            one, mid, other = [next(some for some in classes if repr(word) in map(repr, some)) for word in told]
            if one is not other or mid is one:
                return None
            classes = [some for some in classes if some is not one and some is not mid] + [one + mid]
        return classes

    def are_three(self, join):
        if type(join) is not tuple or len(join) != 3:
            return False
        for share in join:
            if type(share) is not tuple or [type(part) for part in share] != [int, int] or share[1] < 1:
                return False
            if not 0 <= share[0] <= share[1] or Fraction(*share).denominator != share[1]:
                return False
        return Fraction(*join[0]) < Fraction(*join[1]) < Fraction(*join[2])

    def check(self, form, value):
        behind = self.behind(form, value)
        before = repr(value)
        self.assertIs(are_joins(form, value), behind is not None, value)
        self.assertIs(is_whole(form, value), behind is not None and by_the_words.is_good(form, behind), value)
        self.assertEqual(repr(value), before)
        return behind is not None

    def test_by_hand(self):
        due = {
            (): (True, False), (((0, 1), (1, 2), (3, 4)),): (True, True), (((0, 1), (1, 3), (99, 100)),): (True, True),
            (((0, 1), (1, 2), (1, 1)),): (False, False), (((0, 1), (1, 4), (3, 4)),): (False, False),
            (((0, 1), (1, 2), (3, 4)), ((0, 1), (1, 2), (3, 4))): (False, False), (((3, 4), (1, 2), (0, 1)),): (False, False),
            (((1, 3), (2, 3), (1, 1)),): (False, False), (((1, 3), (2, 5), (1, 2)),): (False, False),
        }
        for value, told in due.items():
            self.assertEqual((are_joins(FORM, list(value)), is_whole(FORM, list(value))), told, value)
            self.assertEqual((are_joins(value=list(value), form=FORM), is_whole(value=list(value), form=FORM)), told)
            self.assertIs(are_joins(FORM, value), False)
            self.assertIs(is_whole(FORM, value), False)
        self.assertEqual((are_joins(YES, []), is_whole(YES, [])), (True, True))

    def test_a_join_that_needs_those_ahead_of_it(self):
        # 1 2 1 3 2 4 3 5: with 1 and 2 together 3 stands between them, and only then.
        first, second, third = ((0, 1), (1, 20), (3, 20)), ((0, 1), (7, 20), (9, 20)), ((7, 20), (11, 20), (13, 20))
        self.assertEqual([word_for(LINKED, share) for share in first + second + third], [1, 2, 1, 1, 3, 2, 3, 4, 3])
        for value, due in [([first, second, third], True), ([second, first, third], False), ([third, first, second], True),
                           ([first, third, second], True), ([first, second], True), ([second], False), ([first, second, third, third], False)]:
            self.assertIs(are_joins(LINKED, value), due)
            self.assertIs(is_whole(LINKED, value), due and len(value) == 3)

    def test_rows_with_one_thing_exchanged(self):
        draw = drawer(204)
        good = 0
        for form in [FORM, LINKED, LONG] + [draw_form(draw, draw.randrange(3)) for _ in range(10)]:
            told = joins(form)
            for value in [told] + exchanged(told):
                good += self.check(form, value)
        self.assertGreater(good, 30)

    def test_other_right_ones(self):
        draw = drawer(205)
        good = 0
        for _ in range(1000):
            form = draw.choice([FORM, LINKED, LONG])
            good += self.check(form, [draw_three(draw, 20) for _ in range(draw.randint(1, 2))])
        self.assertGreater(good, 20)

    def test_values_of_any_kind(self):
        case = Case(["a"], [1], [("ann", (("a",),))])
        for value in values_of_all_kinds() + [case, [case], [((0, 1), case, (1, 1))], BadClasses(1), joins(LONG), (), {}, None, FORM]:
            self.assertIs(are_joins(FORM, value), value == [])
            self.assertIs(is_whole(FORM, value), False)

    def test_each_list_is_new(self):
        told = joins(LONG)
        told.clear()
        self.assertEqual(len(joins(LONG)), 4)
        empty = joins(YES)
        empty.append(1)
        self.assertEqual(joins(YES), [])

    def test_as_many_rows_as_may_be(self):
        rows = tuple(("at", (number, 41), number if number < 21 else 41 - number) for number in range(1, 41))
        form = ("cut", 0, rows)
        self.assertEqual(least_classes(form), [[0], list(range(1, 21))])
        self.assertEqual(len(joins(form)), 19)
        self.assertIs(is_whole(form, joins(form)), True)


BAD = {
    "form": (BadForm, values_of_all_kinds() + BAD_FORMS),
    "classes": (BadClasses, values_of_all_kinds() + [
        [], [[]], [["low"]], [["low", "mid", "all"], []], [["low", "low", "mid"], ["all"]], (["low", "mid"], ["all"]), [("low", "mid"), ["all"]],
        [["low", "mid"], ["all", "none"]], ["low", "mid", "all"], [["low", "mid"], ["all"], ["all"]], "low", {"low": 1}, [["low", ["mid"], "all"]],
        [["low", "mid"], [True]], [["low", "mid"], [None]]]),
}


class RefusalsTest(CallChecks, unittest.TestCase):
    bad = BAD

    def calls(self):
        return [(least_classes, {"form": FORM}), (is_good, {"form": FORM, "value": [["low", "mid"], ["all"]]}), (joins, {"form": FORM}),
                (read_by, {"form": FORM, "classes": [["all"], ["mid", "low"]]}), (are_joins, {"form": FORM, "value": []}),
                (is_whole, {"form": FORM, "value": [((0, 1), (1, 2), (3, 4))]})]

    def test_as_many_pairs_of_refusals_as_there_are(self):
        self.assertEqual(self.unlike_pairs(), 1)


if __name__ == "__main__":
    unittest.main()
