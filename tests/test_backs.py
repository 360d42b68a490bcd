"""Point [11], with the interface's stage 8: rows, worlds told apart, told cells."""

import unittest

from talkedalike.backs import are_told_apart, fits, rows, told_cells
from talkedalike.cases import Case
from talkedalike.errors import BadNumber, BadOrder, BadRule
from talkedalike.knowing import is_open, open_cell
from talkedalike.talks import end, said, talk_length
from tests import by_the_words
from tests.drawn import draw_case, draw_order, draw_rule, drawer
from tests.helpers import Refusals, cells, exchanged, two_people, values_of_all_kinds
from tests.refusing import CallChecks

KINDS = ["chance", "atleast", "floor", "sure", "best", "size", "table"]
ORDER = ("ann", "bob")
CHANCE = ("chance", ("c", "d"))
ALL = tuple("abcdefgh")


def a_case():
    """By chances of c and d: ann teaches, bob teaches, ann teaches, and that is all."""
    return two_people("abcdefgh", "abc def gh", "abcd efgh")


def sets(words):
    return list(cells(words))


class FitsTest(unittest.TestCase):
    def test_by_hand(self):
        told = {
            (): ALL, ((1, 3),): tuple("abcdef"), ((0, 1),): ("g", "h"), ((1, 3), (1, 2)): tuple("abcd"),
            ((1, 3), (0, 1)): ("e", "f"), ((1, 3), (1, 2), (1, 3)): tuple("abc"), ((1, 3), (1, 2), (1, 1)): ("d",),
            ((0, 1), (0, 1), (0, 1), (0, 1)): ("g", "h"), ((1, 2),): (), ((1, 3), (1, 2), (1, 2)): (), ((0, 1), (1, 2)): (),
        }
        for heard, due in told.items():
            self.assertEqual(fits(a_case(), CHANCE, ORDER, list(heard)), due, heard)

    def test_nothing_heard_fits_all(self):
        self.assertEqual(fits(two_people("dbca", "ab c d", "abcd"), ("size",), ORDER, []), ("a", "b", "c", "d"))

    def test_ascending_whatever_the_order_of_the_worlds(self):
        self.assertEqual(fits(two_people("dbca", "ab c d", "abcd"), ("size",), ("ann",), [1]), ("c", "d"))

    def test_a_thousand_things(self):
        row = [(1, 3), (1, 2)] + [(1, 1)] * 998
        self.assertEqual(fits(a_case(), CHANCE, ORDER, row), ("d",))
        self.assertEqual(fits(heard=row, order=ORDER, rule=CHANCE, case=a_case()), ("d",))
        self.assertEqual(fits(a_case(), CHANCE, ORDER, row[:-1] + [(0, 1)]), ())
        self.assertEqual(fits(a_case(), CHANCE, ORDER, [None] * 1000), ())

    def test_words_that_are_equal_in_python_and_not_one(self):
        case = two_people("ab", "a b", "a b")
        for rule, good, equal in [
                (("size",), 1, True), (("atleast", ("a",), 1, 1), True, 1), (("floor", ("a",), 1), 1, True),
                (("chance", ("a",)), (1, 1), (True, 1)), (("both", ("size",), ("atleast", ("a",), 0, 1)), (1, True), (1, 1)),
                (("table", ((("a",), 1), (("a", "b"), 5), (("b",), 0))), 1, True)]:
            self.assertEqual(good, equal)
            self.assertIn("a", fits(case, rule, ORDER, [good, good]))
            self.assertEqual(fits(case, rule, ORDER, [equal, good]), ())
            self.assertEqual(fits(case, rule, ORDER, [good, equal]), ())

    def test_lists_with_one_thing_exchanged(self):
        draw = drawer(110)
        for _ in range(40):
            case = draw_case(draw, most_worlds=4)
            rule, order = draw_rule(draw, case, KINDS), draw_order(draw, case)
            row = said(case, rule, order, draw.choice(case.worlds), draw.randint(0, 4))
            lists = [value for value in exchanged(row) if isinstance(value, list)]
            for heard in [row] + draw.sample(lists, min(20, len(lists))):
                due = [world for world in sorted(case.worlds)
                       if repr(by_the_words.row(case, rule, order, world, len(heard))) == repr(heard)]
                self.assertEqual(fits(case, rule, order, heard), tuple(due), heard)

    def test_lists_of_any_things(self):
        things = values_of_all_kinds() + [a_case(), BadNumber(1), [(1, 3)], ((1, 3),), [1, 3], "1/3", (1, 3, 1), (1,)]
        for thing in things:
            if repr(thing) != "(1, 3)":
                self.assertEqual(fits(a_case(), CHANCE, ORDER, [thing]), ())
                due = ("a", "b", "c", "d") if repr(thing) == "(1, 2)" else ()
                self.assertEqual(fits(a_case(), CHANCE, ORDER, [(1, 3), thing]), due)

    def test_drawn_talks(self):
        draw = drawer(111)
        for _ in range(100):
            case = draw_case(draw)
            rule, order = draw_rule(draw, case, KINDS), draw_order(draw, case)
            for world in case.worlds:
                heard = said(case, rule, order, world, draw.randrange(12))
                due = [other for other in sorted(case.worlds)
                       if repr(by_the_words.row(case, rule, order, other, len(heard))) == repr(heard)]
                self.assertIn(world, due)
                self.assertEqual(fits(case, rule, order, heard), tuple(due))


class RowsTest(unittest.TestCase):
    def test_by_hand(self):
        self.assertEqual(rows(a_case(), CHANCE, ORDER, 0), [[]])
        self.assertEqual(rows(a_case(), CHANCE, ORDER, 1), [[(1, 3)], [(0, 1)]])
        due = [[(1, 3), (1, 2), (1, 3)], [(1, 3), (1, 2), (1, 1)], [(1, 3), (0, 1), (0, 1)], [(0, 1), (0, 1), (0, 1)]]
        self.assertEqual(rows(a_case(), CHANCE, ORDER, 3), due)
        self.assertEqual(rows(turns=3, order=ORDER, rule=CHANCE, case=a_case()), due)

    def test_in_the_order_of_the_first_world_by_the_cases_worlds(self):
        case = two_people("dbca", "ab c d", "abcd")
        rule = ("table", tuple((some, {1: 1, 2: 2, 4: 4}.get(len(some), 0)) for some in by_the_words.all_sets("abcd")))
        self.assertEqual(rows(case, rule, ("ann",), 1), [[1], [2]])
        self.assertEqual(rows(two_people("badc", "ab c d", "abcd"), rule, ("ann",), 1), [[2], [1]])
        self.assertEqual(rows(case, ("chance", ("c",)), ("ann",), 2), [[(0, 1)] * 2, [(1, 1)] * 2])
        self.assertEqual(rows(two_people("cdba", "ab c d", "abcd"), ("chance", ("c",)), ("ann",), 1), [[(1, 1)], [(0, 1)]])

    def test_a_thousand_turns(self):
        told = rows(a_case(), CHANCE, ORDER, 1000)
        self.assertEqual([len(row) for row in told], [1000] * 4)
        self.assertEqual(told, [said(a_case(), CHANCE, ORDER, world, 1000) for world in "adeg"])

    def test_drawn_talks(self):
        draw = drawer(112)
        for _ in range(100):
            case = draw_case(draw)
            rule, order, turns = draw_rule(draw, case, KINDS), draw_order(draw, case), draw.randrange(12)
            due = []
            for world in case.worlds:
                row = by_the_words.row(case, rule, order, world, turns)
                if row not in due:
                    due.append(row)
            self.assertEqual(repr(rows(case, rule, order, turns)), repr(due))

    def test_each_list_is_new(self):
        first, second = rows(a_case(), CHANCE, ORDER, 2), rows(a_case(), CHANCE, ORDER, 2)
        parts = [row for told in (first, second) for row in told] + [first, second]
        self.assertEqual(len({id(part) for part in parts}), len(parts))
        for row in first:
            self.assertIs(type(row), list)
            row.clear()
        first.clear()
        self.assertEqual(rows(a_case(), CHANCE, ORDER, 2), second)


class ToldApartTest(unittest.TestCase):
    def test_by_hand(self):
        self.assertEqual(told_cells(a_case(), CHANCE, ORDER), sets("abc d ef gh"))
        self.assertEqual(told_cells(a_case(), CHANCE, ("ann",)), sets("abcdef gh"))
        self.assertEqual(told_cells(a_case(), CHANCE, ("bob",)), sets("abcd efgh"))
        self.assertEqual(told_cells(order=("bob", "ann"), rule=CHANCE, case=a_case()), sets("abc d efgh"))
        self.assertEqual(told_cells(two_people("dbca", "ab c d", "abcd"), ("size",), ORDER), sets("ab cd"))
        self.assertEqual(told_cells(two_people("ab", "a b", "ab"), ("chance", ()), ORDER), sets("ab"))

    def test_what_only_the_round_behind_the_length_tells(self):
        # Nobody teaches, as both see all; but what they say tells the worlds apart.
        case = two_people("abc", "a b c", "a b c")
        self.assertEqual(talk_length(case, ("chance", ("a",)), ORDER), 0)
        self.assertEqual(told_cells(case, ("chance", ("a",)), ORDER), sets("a bc"))
        # Ann says the same of all; only bob, who speaks last, tells them apart, and she sees them apart already.
        case = two_people("abc", "a b c", "ab c")
        table = ("table", tuple((some, 2 if some == ("a", "b") else 1) for some in by_the_words.all_sets("abc")))
        for order in [("ann", "bob"), ("ann", "ann", "ann", "bob")]:
            self.assertEqual(talk_length(case, table, order), 0)
            self.assertEqual(told_cells(case, table, order), sets("ab c"))
            self.assertIs(are_told_apart(case, table, order, ("a", "c")), True)
        self.assertEqual(told_cells(case, table, ("ann", "ann")), sets("abc"))

    def test_are_told_apart(self):
        placed = {world: some for some in sets("abc d ef gh") for world in some}
        for one in ALL:
            for other in ALL:
                due = placed[one] != placed[other]
                self.assertIs(are_told_apart(a_case(), CHANCE, ORDER, (one, other)), due)
                self.assertIs(are_told_apart(value=(one, other), order=ORDER, rule=CHANCE, case=a_case()), due)

    def test_values_of_any_kind(self):
        case = a_case()
        for value in values_of_all_kinds() + [
                ["a", "d"], ("a",), ("a", "d", "e"), ("a", "z"), ("z", "a"), (), [], "ad", {"a": "d"}, (("a",), ("d",)), ("a", ["d"]),
                (("a", "d"),), ("a", 1), ("ann", "bob"), case, (case, "a"), ("a", case), ("a", {}), BadNumber(1), None]:
            before = repr(value)
            self.assertIs(are_told_apart(case, CHANCE, ORDER, value), False)
            self.assertEqual(repr(value), before)

    def test_with_one_thing_exchanged(self):
        for value in exchanged(("a", "d")):
            due = isinstance(value, tuple) and value in [("d", "a")]
            self.assertIs(are_told_apart(a_case(), CHANCE, ORDER, value), due, value)

    def test_drawn_talks(self):
        draw = drawer(113)
        found = set()
        for _ in range(150):
            case = draw_case(draw)
            rule, order = draw_rule(draw, case, KINDS), draw_order(draw, case)
            due = by_the_words.told_cells(case, rule, order)
            told = told_cells(case, rule, order)
            self.assertEqual(told, due)
            found.add(len(due))
            many = talk_length(case, rule, order) + len(order)
            self.assertEqual(len(rows(case, rule, order, many)), len(due))
            for one in case.worlds:
                for other in case.worlds:
                    apart = not any(one in some and other in some for some in due)
                    self.assertIs(are_told_apart(case, rule, order, (one, other)), apart)
                # What is open at the end holds what fits all that is said.
                heard = said(case, rule, order, one, many)
                self.assertEqual(fits(case, rule, order, heard), [some for some in due if one in some][0])
        self.assertTrue({1, 2, 3, 4} <= found, found)

    def test_what_is_open_at_the_end_is_within_a_told_cell(self):
        draw = drawer(114)
        for _ in range(60):
            case = draw_case(draw)
            rule, order = draw_rule(draw, case, KINDS), draw_order(draw, case)
            last = end(case, rule, order)
            for some in told_cells(case, rule, order):
                for world in some:
                    self.assertLessEqual(set(open_cell(last, world)), set(some))
                    self.assertIs(is_open(last, world, some), True)

    def test_each_list_is_new(self):
        told = told_cells(a_case(), CHANCE, ORDER)
        self.assertIs(type(told), list)
        told.clear()
        self.assertEqual(told_cells(a_case(), CHANCE, ORDER), sets("abc d ef gh"))


BAD = {
    "rule": (BadRule, values_of_all_kinds() + [(), "size", ["size"], ("size", 1), ("chance", ["a"]), ("both", ("size",)), {}]),
    "order": (BadOrder, values_of_all_kinds() + [(), [], "ann", ["ann"], ("ann", "cas"), ("ann", ["bob"]), {"ann": 1}, ("",)]),
    "heard": (BadNumber, [value for value in values_of_all_kinds() if not isinstance(value, list)] + [
        (), ((1, 3),), "no", {}, {0: "no"}, ["no"] * 1001, [None] * 2000, 5, True]),
    "turns": (BadNumber, [value for value in values_of_all_kinds() if value not in (0, 1, 2)] + [
        True, False, -1, 1001, 10 ** 30, "3", [3], (3,), None, [], ()]),
}


class RefusalsTest(CallChecks, Refusals, unittest.TestCase):
    bad = BAD

    def calls(self):
        talking = {"case": a_case(), "rule": CHANCE, "order": ("bob", "ann", "bob")}
        return [(fits, {**talking, "heard": [(1, 2), (1, 3)]}), (rows, {**talking, "turns": 4}), (told_cells, talking),
                (are_told_apart, {**talking, "value": ("a", "d")})]

    def test_as_many_pairs_of_refusals_as_there_are(self):
        self.assertEqual(self.unlike_pairs(), 3 + 3 + 1 + 1)

    def test_lists_that_are_too_long_are_refused_whatever_is_in_them(self):
        row = said(a_case(), CHANCE, ORDER, "d", 1000)
        self.refused_value(BadNumber, row + [(1, 1)], fits, a_case(), CHANCE, ORDER, row + [(1, 1)])

    def test_one_person_alone(self):
        case = Case(["b", "a"], [1, 2], [("ann", cells("a b"))])
        self.assertEqual(rows(case, ("size",), ("ann",), 2), [[1, 1]])
        self.assertEqual(told_cells(case, ("chance", ("a",)), ("ann",)), sets("a b"))


if __name__ == "__main__":
    unittest.main()
