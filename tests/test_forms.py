"""Points [16], [17] and [21], with the interface's stage 11: shares, forms, starts, words, the simplest share apart."""

import unittest
from fractions import Fraction

from talkedalike import forms
from talkedalike.cases import Case
from talkedalike.errors import BadRule, TalkError
from talkedalike.forms import BadBreak, BadClasses, BadForm, BadShare
from talkedalike.forms import first_apart, is_form, is_share, starts, word_for, words_of
from tests import by_the_words
from tests.drawn import draw_form, draw_share, drawer
from tests.helpers import exchanged, nested, values_of_all_kinds
from tests.refusing import CallChecks

FORM = ("cut", "low", (("at", (1, 3), "mid"), ("above", (1, 2), "low"), ("at", (1, 1), "all")))
YES = ("cut", 0, (("at", (1, 2), 1),))
GOOD = [
    FORM, YES, ("cut", 7, ()), ("cut", -10 ** 59, ()), ("cut", "a", ()), ("cut", 1, (("above", (0, 1), 1),)),
    ("cut", 1, (("at", (1, 1), "a"),)), ("cut", 1, (("at", (1, 3), 2), ("above", (1, 3), 1), ("at", (10 ** 30 - 2, 10 ** 30 - 1), 2))),
    ("read", FORM, ()), ("read", FORM, (("low", 1), ("all", "low"), ("none", 0))), ("read", ("pair", YES, FORM), (((0, "low"), 3),)),
    ("read", YES, ((nested(0), 1), ((1, (2, ("a", 3))), "a"), (1, 1), (0, 0))), ("pair", YES, YES), ("pair", ("read", YES, ()), FORM),
    ("pair", ("pair", YES, ("pair", FORM, YES)), ("pair", FORM, ("read", ("pair", YES, YES), (((1, 1), 1), ((0, 0), "no"))))),
]
BAD_SHARES = [
    (0, 2), (2, 4), (2, 1), (3, 2), (1, 0), (0, 0), (-1, 2), (1, -2), (-1, -2), (True, 1), (False, 1), (1, True), (0, True), (1,), (),
    (1, 2, 3), [1, 2], "12", ("1", "2"), (1, "2"), (None, 1), ((1, 2),), (1, (2,)), {1: 2}, 1, (10, 10 ** 30), (1, 1, 1), (0, 1, 0),
]
BAD_FORMS = [
    (), ("cut",), ("cut", 1), ("cut", 1, (), ()), ["cut", 1, ()], ("cut", 1, []), ("cut", True, ()), ("cut", None, ()), ("cut", "A", ()),
    ("cut", (1, 2), ()), ("cut", "abcdefghi", ()), ("Cut", 1, ()), ("cuts", 1, ()), (1, 1, ()), (["cut"], 1, ()), ({}, 1, ()), "cut",
    ("cut", 1, (("at", (0, 1), 2),)), ("cut", 1, (("above", (1, 1), 2),)), ("cut", 1, (("at", (2, 4), 2),)), ("cut", 1, (("at", (1, 2), True),)),
    ("cut", 1, (("below", (1, 2), 2),)), ("cut", 1, (("at", (1, 2), 2), ("at", (1, 2), 2))), ("cut", 1, (("at", [1, 2], 2),)),
    ("cut", 1, (["at", (1, 2), 2],)), ("cut", 1, (("at", (1, 2)),)), ("cut", 1, (("at", (1, 2), 2, 2),)), ("cut", 1, ("at", (1, 2), 2)),
    ("cut", 1, (("above", (1, 2), 2), ("at", (1, 2), 3))), ("cut", 1, (("above", (1, 2), 2), ("above", (1, 2), 3))),
    ("cut", 1, (("at", (1, 2), 2), ("at", (1, 3), 3))), ("cut", 1, (("at", (1, 10), 2), ("at", (1, 12), 3))), ("cut", 1, (([], (1, 2), 2),)),
    ("cut", 1, (("at", (1, 2), (1, 2)),)), ("cut", 1, (("at", (True, 1), 2),)), ("cut", 1, (("at", (3, 2), 2),)), ("cut", 1, {}),
    ("read", YES), ("read", YES, (), ()), ("read", YES, []), ("read", (), ()), ("read", 1, ()), ("read", YES, ((1, 2), (1, 3))),
    ("read", YES, ((True, 1),)), ("read", YES, ((1, True),)), ("read", YES, ((1, (1, 2)),)), ("read", YES, (((1,), 1),)),
    ("read", YES, (((1, 2, 3), 1),)), ("read", YES, (([1, 2], 1),)), ("read", YES, (((1, True), 1),)), ("read", YES, ((1,),)),
    ("read", YES, ((1, 2, 3),)), ("read", YES, (1, 2)), ("read", YES, ([1, 2],)), ("read", YES, (((1, 2), 1), ((1, 2), 1))),
    ("read", YES, (("A", 1),)), ("read", YES, ((None, 1),)), ("read", ("cut", 1, []), ()), ("read", YES, (("", 1),)),
    ("pair", YES), ("pair", YES, YES, YES), ("pair", YES, ()), ("pair", YES, 1), ("pair", (), YES), ["pair", YES, YES], ("pair", YES, [YES]),
    ("chance", ("a",)), ("both", YES, YES), ("size",), ("table", ()), (YES,), YES[1:], {"cut": 1},
]


class SharesTest(unittest.TestCase):
    def test_all_small_pairs(self):
        due = {(share.numerator, share.denominator) for share in by_the_words.shares(12)}
        for top in range(-2, 14):
            for bottom in range(-2, 13):
                self.assertIs(is_share((top, bottom)), (top, bottom) in due)
        self.assertEqual(len(due), 47)

    def test_great_ones(self):
        self.assertIs(is_share((10 ** 29 + 1, 10 ** 30)), True)
        self.assertIs(is_share((10 ** 29, 10 ** 30)), False)
        self.assertIs(is_share(value=(10 ** 30 - 1, 10 ** 30)), True)

    def test_others(self):
        for value in BAD_SHARES + [value for value in values_of_all_kinds() if value != (1, 2)] + [BadShare(1), Case]:
            before = repr(value)
            self.assertIs(is_share(value), False, value)
            self.assertEqual(repr(value), before)
        for value in exchanged((2, 3)):
            due = isinstance(value, tuple) and repr(value) in ["(1, 3)", "(2, 5)", "(1, 2)", "(0, 1)"]
            self.assertIs(is_share(value), due, value)


class FormsTest(unittest.TestCase):
    def test_good_ones(self):
        for form in GOOD:
            self.assertIs(is_form(form), True, form)
            self.assertIs(is_form(value=form), True)

    def test_drawn_ones(self):
        draw = drawer(16)
        for _ in range(300):
            self.assertIs(is_form(draw_form(draw, draw.randrange(4))), True)

    def test_others(self):
        case = Case(["a"], [1], [("ann", (("a",),))])
        for value in BAD_FORMS + values_of_all_kinds() + [case, BadForm(1), ("cut", case, ()), ("read", YES, ((case, 1),)), (1, 2, 3)]:
            before = repr(value)
            self.assertIs(is_form(value), False, value)
            self.assertEqual(repr(value), before)

    def test_deep_ones(self):
        form = YES
        for _ in range(3):
            form = ("pair", form, form)
            form = ("read", form, ((((0, 0), (0, 0)), 1),))
        self.assertIs(is_form(form), True)
        self.assertIs(is_form(("pair", YES, nested(18))), False)

    def test_with_one_thing_exchanged(self):
        draw = drawer(161)
        good = 0
        for form in GOOD[:12] + [draw_form(draw, draw.randrange(3)) for _ in range(15)]:
            for value in exchanged(form):
                due = self.is_form(value)
                good += due
                self.assertIs(is_form(value), due, value)
        self.assertGreater(good, 200)

    def is_form(self, value):
        """By the words of the document, with the help of repr, which tells 1 from True and tuples from lists."""
        if type(value) is not tuple or len(value) != 3 or type(value[0]) is not str:
            return False
        if value[0] == "pair":
            return self.is_form(value[1]) and self.is_form(value[2])
        if value[0] not in ("cut", "read") or type(value[2]) is not tuple:
            return False
        if value[0] == "read":
            rows = [row for row in value[2] if type(row) is tuple and len(row) == 2 and self.is_word(row[0], 9) and self.is_word(row[1], 0)]
            return self.is_form(value[1]) and len({repr(row[0]) for row in rows}) == len(value[2])
        places = []
        for row in value[2]:
            if type(row) is not tuple or len(row) != 3 or row[0] not in ("at", "above") or not self.is_word(row[2], 0):
                return False
            if type(row[1]) is not tuple or [type(part) for part in row[1]] != [int, int]:
                return False
            top, bottom = row[1]
            if bottom < 1 or not 0 <= top <= bottom or Fraction(top, bottom).denominator != bottom:
                return False
            places.append((Fraction(top, bottom), row[0] == "above"))
        if (Fraction(0), False) in places or (Fraction(1), True) in places:
            return False
        return self.is_word(value[1], 0) and places == sorted(set(places))

    def is_word(self, value, levels):
        if type(value) is tuple:
            return levels > 0 and len(value) == 2 and all(self.is_word(part, levels - 1) for part in value)
        return type(value) is int or (type(value) is str and value.isalpha() and value.islower() and len(value) < 9)


class WordForTest(unittest.TestCase):
    def test_at_the_cut_points_between_and_beside_them(self):
        due = {(0, 1): "low", (1, 4): "low", (33, 100): "low", (1, 3): "mid", (34, 100): "mid", (2, 5): "mid", (1, 2): "mid",
               (51, 100): "low", (2, 3): "low", (99, 100): "low", (10 ** 29 - 1, 10 ** 29): "low", (1, 1): "all"}
        for share, word in due.items():
            share = (Fraction(*share).numerator, Fraction(*share).denominator)
            self.assertEqual(word_for(FORM, share), word)
            self.assertEqual(word_for(share=share, form=FORM), word)

    def test_above_nothing_and_at_all(self):
        form = ("cut", 0, (("above", (0, 1), 1), ("at", (1, 1), 2)))
        self.assertEqual([word_for(form, share) for share in [(0, 1), (1, 10 ** 30), (1, 2), (1, 1)]], [0, 1, 1, 2])

    def test_one_share_by_itself(self):
        form = ("cut", 0, (("at", (1, 2), 1), ("above", (1, 2), 0)))
        self.assertEqual([word_for(form, share) for share in [(499, 1000), (1, 2), (501, 1000)]], [0, 1, 0])

    def test_shares_are_held_against_one_another_as_fractions(self):
        form = ("cut", 0, (("at", (1, 10), 1), ("at", (2, 3), 2), ("at", (3, 4), 3)))
        told = [word_for(form, share) for share in [(1, 11), (1, 10), (1, 9), (3, 5), (5, 7), (10, 13), (7, 9)]]
        self.assertEqual(told, [0, 1, 1, 1, 2, 3, 3])

    def test_read_and_pair(self):
        read = ("read", FORM, (("mid", "low"), ("low", 5), (5, 6)))
        self.assertEqual([word_for(read, share) for share in [(0, 1), (1, 2), (1, 1)]], [5, "low", "all"])
        pair = ("pair", read, ("pair", YES, FORM))
        self.assertEqual(word_for(pair, (1, 2)), ("low", (1, "mid")))
        form = ("read", pair, ((("low", (1, "mid")), 7), (("low", (0, "mid")), "x"), ((1, 1), 9)))
        told = [word_for(form, share) for share in [(1, 2), (1, 3), (0, 1), (1, 1)]]
        self.assertEqual(told, [7, "x", (5, (0, "low")), ("all", (1, "all"))])

    def test_drawn_forms(self):
        draw = drawer(162)
        for _ in range(200):
            form = draw_form(draw, draw.randrange(4))
            for share in [draw_share(draw, 12) for _ in range(10)]:
                self.assertEqual(repr(word_for(form, share)), repr(by_the_words.form_word(form, Fraction(*share))))


class StartsTest(unittest.TestCase):
    def test_by_hand(self):
        due = [("at", (0, 1), "low"), ("at", (1, 3), "mid"), ("above", (1, 2), "low"), ("at", (1, 1), "all")]
        self.assertEqual(starts(FORM), due)
        self.assertEqual(starts(form=FORM), due)
        self.assertEqual(words_of(FORM), ["low", "mid", "all"])
        self.assertEqual(words_of(form=YES), [0, 1])

    def test_rows_that_change_no_word(self):
        form = ("cut", 1, (("above", (0, 1), 1), ("at", (1, 3), 1), ("at", (1, 2), 2), ("above", (1, 2), 2), ("at", (2, 3), 1)))
        self.assertEqual(starts(form), [("at", (0, 1), 1), ("at", (1, 2), 2), ("at", (2, 3), 1)])
        self.assertEqual(words_of(form), [1, 2])
        self.assertEqual(starts(("cut", "a", (("at", (1, 1), "a"),))), [("at", (0, 1), "a")])

    def test_read(self):
        self.assertEqual(starts(("read", FORM, (("mid", "low"),))), [("at", (0, 1), "low"), ("at", (1, 1), "all")])
        self.assertEqual(starts(("read", FORM, (("mid", "low"), ("low", "mid"), ("all", "mid")))),
                         [("at", (0, 1), "mid"), ("at", (1, 3), "low"), ("above", (1, 2), "mid")])
        self.assertEqual(starts(("read", FORM, ())), starts(FORM))
        twice = ("read", ("read", FORM, (("mid", 1),)), ((1, 2), ("mid", 3), ("low", 2)))
        self.assertEqual(starts(twice), [("at", (0, 1), 2), ("at", (1, 1), "all")])

    def test_pair(self):
        other = ("cut", 1, (("above", (1, 3), 2), ("at", (1, 2), 3), ("above", (1, 2), 1)))
        due = [("at", (0, 1), ("low", 1)), ("at", (1, 3), ("mid", 1)), ("above", (1, 3), ("mid", 2)), ("at", (1, 2), ("mid", 3)),
               ("above", (1, 2), ("low", 1)), ("at", (1, 1), ("all", 1))]
        self.assertEqual(starts(("pair", FORM, other)), due)
        self.assertEqual(words_of(("pair", FORM, other)), [("low", 1), ("mid", 1), ("mid", 2), ("mid", 3), ("all", 1)])
        self.assertEqual([start[:2] for start in starts(("pair", other, FORM))], [start[:2] for start in due])

    def test_read_of_a_pair(self):
        form = ("read", ("pair", FORM, YES), ((("low", 0), "x"), (("mid", 0), "x"), (("mid", 1), "y"), (("all", 0), "z")))
        due = [("at", (0, 1), "x"), ("at", (1, 2), "y"), ("above", (1, 2), ("low", 1)), ("at", (1, 1), ("all", 1))]
        self.assertEqual(starts(form), due)

    def test_drawn_forms(self):
        draw = drawer(17)
        lengths = set()
        for _ in range(300):
            form = draw_form(draw, draw.randrange(4))
            due = by_the_words.starts(form)
            self.assertEqual(repr(starts(form)), repr(due))
            told = []
            for _, _, word in due:
                if repr(word) not in [repr(each) for each in told]:
                    told.append(word)
            self.assertEqual(repr(words_of(form)), repr(told))
            lengths.add(min(len(due), 6))
        self.assertEqual(lengths, {1, 2, 3, 4, 5, 6})

    def test_as_many_rows_and_levels_as_may_be(self):
        rows = tuple(("at", (number, 41), number % 3) for number in range(1, 41))
        self.assertEqual(len(starts(("cut", 0, rows))), 41)
        form = ("pair", YES, YES)
        for _ in range(4):
            form = ("pair", form, form)
        self.assertEqual([start[:2] for start in starts(form)], [("at", (0, 1)), ("at", (1, 2))])
        self.assertEqual(len(words_of(form)), 2)

    def test_each_list_is_new(self):
        for function in (starts, words_of):
            told = function(FORM)
            self.assertIs(type(told), list)
            due = list(told)
            told.clear()
            self.assertEqual(function(FORM), due)


class FirstApartTest(unittest.TestCase):
    def check(self, first, second, due):
        self.assertEqual(first_apart(first, second), due)
        self.assertEqual(first_apart(second, first), due)
        self.assertEqual(first_apart(second=second, first=first), due)

    def test_by_hand(self):
        self.check(FORM, ("cut", "low", (("at", (1, 3), "mid"), ("above", (1, 2), "low"))), (1, 1))
        self.check(FORM, ("read", FORM, (("low", "mid"),)), (0, 1))
        self.check(FORM, ("read", FORM, (("mid", "low"),)), (1, 2))
        self.check(YES, ("cut", 0, (("at", (1, 3), 1),)), (1, 3))
        self.check(YES, ("cut", 0, (("above", (1, 3), 1),)), (2, 5))
        self.check(YES, ("cut", 0, (("above", (1, 2), 1),)), (1, 2))
        self.check(("cut", 0, ()), ("cut", 1, ()), (0, 1))
        self.check(("cut", 0, ()), ("cut", 0, (("above", (0, 1), 1),)), (1, 1))
        self.check(("cut", 0, ()), ("cut", 0, (("above", (0, 1), 1), ("at", (1, 1), 0))), (1, 2))
        self.check(("cut", 0, ()), ("pair", ("cut", 0, ()), YES), (0, 1))
        self.check(YES, ("cut", "a", (("at", (1, 2), 1),)), (0, 1))

    def test_at_one_share_alone(self):
        for share in [(1, 2), (1, 3), (5, 7), (10 ** 29 + 1, 10 ** 30), (1, 10 ** 30)]:
            self.check(("cut", 0, ()), ("cut", 0, (("at", share, 1), ("above", share, 0))), share)
        self.check(("cut", 0, ()), ("cut", 0, (("at", (1, 1), 1),)), (1, 1))
        self.check(("cut", 0, ()), ("cut", 1, (("above", (0, 1), 0),)), (0, 1))

    def test_between_two_neighbours(self):
        # Between 1/3 and 1/2 the simplest one is 2/5; between those with bottoms of thirty digits it has such a bottom, too.
        for low, high in [((1, 3), (1, 2)), ((2, 5), (1, 2)), ((1, 10 ** 15), (1, 10 ** 15 - 1)), ((0, 1), (1, 10 ** 30)),
                          ((10 ** 30 - 1, 10 ** 30), (1, 1)), ((832040, 1346269), (1346269, 2178309))]:
            between = (low[0] + high[0], low[1] + high[1])
            self.check(("cut", 0, ()), ("cut", 0, (("above", low, 1), ("at", high, 0))), between)

    def test_the_simplest_one_of_several_ranges(self):
        form = ("cut", 0, (("above", (1, 10), 1), ("at", (1, 9), 0), ("above", (1, 3), 2), ("at", (2, 5), 0), ("at", (7, 9), 1), ("above", (7, 9), 0)))
        self.check(("cut", 0, ()), form, (3, 8))
        # Of 2/5 and 3/5 the one with the lesser top.
        both = ("cut", 0, (("at", (2, 5), 1), ("above", (2, 5), 0), ("at", (3, 5), 1), ("above", (3, 5), 0)))
        self.check(("cut", 0, ()), both, (2, 5))
        self.check(both, ("cut", 0, (("at", (2, 5), 1), ("above", (2, 5), 0))), (3, 5))

    def test_forms_that_are_written_otherwise_and_are_equal(self):
        for first, second in [
                (FORM, FORM), (FORM, ("read", FORM, ())), (FORM, ("read", FORM, (("none", 1), ("low", "low")))),
                (YES, ("cut", 0, (("at", (1, 3), 0), ("at", (1, 2), 1), ("above", (1, 2), 1)))),
                (YES, ("read", ("pair", YES, YES), (((0, 0), 0), ((1, 1), 1), ((1, 0), 5)))),
                (("pair", FORM, YES), ("pair", ("read", FORM, ()), ("cut", 0, (("at", (1, 2), 1), ("at", (1, 1), 1)))))]:
            self.check(first, second, None)
            self.assertEqual(starts(first), starts(second))

    def test_drawn_forms(self):
        draw = drawer(171)
        found = set()
        for _ in range(300):
            first, second = draw_form(draw, draw.randrange(3)), draw_form(draw, draw.randrange(3))
            if draw.random() < 0.3:
                second = ("read", first, ((draw.choice(words_of(first)), draw.choice(["low", 1])),))
            apart = [share for share in by_the_words.shares(12)
                     if repr(by_the_words.form_word(first, share)) != repr(by_the_words.form_word(second, share))]
            due = (apart[0].numerator, apart[0].denominator) if apart else None
            self.check(first, second, due)
            self.assertIs(due is None, repr(starts(first)) == repr(starts(second)))
            found.add(due)
        self.assertTrue({None, (0, 1), (1, 1), (1, 2), (1, 3)} <= found, found)

    def test_ranges_with_great_bottoms(self):
        draw = drawer(172)
        for _ in range(100):
            low, high = sorted([Fraction(draw.randrange(1, 10 ** 9), 10 ** 9) for _ in range(2)])
            if low < high:
                ends = [(each.numerator, each.denominator) for each in (low, high)]
                form = ("cut", 0, ((draw.choice(["at", "above"]), ends[0], 1), (draw.choice(["at", "above"]), ends[1], 0)))
                told = first_apart(("cut", 0, ()), form)
                self.assertEqual(word_for(form, told), 1)
                # None is simpler: there is none with a lesser bottom, nor with the same one and a lesser top.
                for bottom in range(1, min(told[1], 3000)):
                    top = low.numerator * bottom // low.denominator
                    for share in (Fraction(top, bottom), Fraction(min(top + 1, bottom), bottom)):
                        self.assertEqual(word_for(form, (share.numerator, share.denominator)), 0)


class ErrorsTest(unittest.TestCase):
    def test_they_are_direct_subclasses_of_talk_error_and_stand_here(self):
        for error in (BadForm, BadShare, BadBreak, BadClasses):
            self.assertEqual(error.__bases__, (TalkError,))
            self.assertEqual(error.__module__, "talkedalike.forms")
        found = [name for name, thing in vars(forms).items() if isinstance(thing, type) and thing.__module__ == "talkedalike.forms"]
        self.assertEqual(sorted(found), ["BadBreak", "BadClasses", "BadForm", "BadShare"])

    def test_what_they_keep(self):
        for error in (BadForm, BadShare, BadBreak, BadClasses):
            for value in values_of_all_kinds() + [FORM, BadRule(1), 10 ** 6000]:
                for made in (error(value), error(value=value)):
                    self.assertEqual(list(vars(made)), ["value"])
                    self.assertIs(made.value, value)
            self.assertRaises(TypeError, error)
            self.assertRaises(TypeError, error, 1, 2)

    def test_each_can_be_raised_and_caught(self):
        for error in (BadForm, BadShare, BadBreak, BadClasses):
            for caught_as in (error, TalkError, ValueError):
                with self.assertRaises(caught_as):
                    raise error("x")
            others = {BadForm, BadShare, BadBreak, BadClasses} - {error}
            self.assertNotIsInstance(error(1), tuple(others))


BAD = {"form": (BadForm, values_of_all_kinds() + BAD_FORMS), "first": (BadForm, BAD_FORMS), "second": (BadForm, BAD_FORMS[::-1]),
       "share": (BadShare, [value for value in values_of_all_kinds() if value != (1, 2)] + BAD_SHARES)}


class RefusalsTest(CallChecks, unittest.TestCase):
    bad = BAD

    def calls(self):
        return [(word_for, {"form": FORM, "share": (1, 2)}), (starts, {"form": FORM}), (words_of, {"form": FORM}),
                (first_apart, {"first": FORM, "second": YES})]

    def test_as_many_pairs_of_refusals_as_there_are(self):
        self.assertEqual(self.unlike_pairs(), 2)


if __name__ == "__main__":
    unittest.main()
