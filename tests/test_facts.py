"""Point [2]: the main facts about talks and rules hold of what the program tells."""

import unittest

from talkedalike.cases import Case
from talkedalike.endings import are_alike, is_settled, paper, unlike_worlds
from talkedalike.knowing import open_cells
from talkedalike.rules import word_in
from talkedalike.talks import end, said, talk_length, teaches
from talkedalike.verdicts import decide, keeps_together, least_split, quarrel
from tests.drawn import TOGETHER, draw_all_order, draw_case, draw_order, draw_rule, drawer
from tests.helpers import cells, small_cases

KINDS = TOGETHER + ["size", "table"]


class FactsTest(unittest.TestCase):
    def test_every_talk_ends_and_then_nobody_can_be_told_anything(self):
        draw = drawer(21)
        for _ in range(200):
            case = draw_case(draw)
            rule, order = draw_rule(draw, case, KINDS), draw_order(draw, case)
            # Each turn that teaches makes a cell more, and a round without one is the last one.
            most = len(order) * len(case.names) * (len(case.worlds) - 1)
            self.assertLessEqual(talk_length(case, rule, order), most)
            last = end(case, rule, order)
            self.assertIs(is_settled(last, rule, order), True)
            self.assertFalse(any(teaches(last, rule, name) for name in order))

    def test_at_its_end_each_speaker_has_one_word_within_each_open_cell(self):
        draw = drawer(22)
        for _ in range(200):
            case = draw_case(draw)
            rule, order = draw_rule(draw, case, KINDS), draw_order(draw, case)
            last = end(case, rule, order)
            for some in open_cells(last):
                for name in order:
                    self.assertEqual(len({repr(word_in(last, rule, name, world)) for world in some}), 1)

    def test_a_rule_that_keeps_together_brings_all_talks_to_one_word_for_all(self):
        draw = drawer(23)
        together = 0
        for _ in range(400):
            case = draw_case(draw)
            rule, order = draw_rule(draw, case, KINDS), draw_all_order(draw, case)
            if keeps_together(case, rule):
                together += 1
                self.assertEqual(unlike_worlds(case, rule, order), ())
                last = end(case, rule, order)
                for world in case.worlds:
                    self.assertIs(are_alike(last, rule, order, world), True)
                    self.assertIsNotNone(paper(last, rule, order, world))
        self.assertTrue(100 < together < 390, together)

    def test_it_is_enough_that_those_speak_who_are_named(self):
        draw = drawer(24)
        for _ in range(200):
            case = draw_case(draw)
            rule, order = draw_rule(draw, case, TOGETHER), draw_order(draw, case)
            self.assertEqual(unlike_worlds(case, rule, order), ())

    def test_a_quarrel_never_ends_alike_in_the_worlds_of_its_split(self):
        draw = drawer(25)
        found = 0
        for _ in range(400):
            case = draw_case(draw, most_worlds=4)
            rule = draw_rule(draw, case, ["size", "table"])
            split = least_split(case, rule)
            if split is None:
                self.assertIsNone(quarrel(case, rule))
                continue
            found += 1
            made = quarrel(case, rule)
            order = draw.choice([("one", "other"), ("other", "one"), ("one", "one", "other")])
            self.assertEqual(unlike_worlds(made, rule, order), tuple(sorted(split[0] + split[1])))
            for world in split[0] + split[1]:
                one = repr(word_in(made, rule, "one", world))
                row = [repr(word) for word in said(made, rule, order, world, 40)]
                for number, word in enumerate(row):
                    self.assertIs(word == one, order[number % len(order)] == "one")
        self.assertTrue(50 < found < 395, found)

    def test_chances_and_yes_and_no_by_chances_and_best_deeds_keep_together(self):
        draw = drawer(26)
        for _ in range(300):
            case = draw_case(draw)
            self.assertIs(keeps_together(case, draw_rule(draw, case, TOGETHER)), True)

    def test_numbers_of_worlds_do_not(self):
        for many in range(1, 7):
            worlds = "abcdef"[:many]
            case = Case(list(worlds), [1] * many, [("ann", cells(worlds))])
            self.assertIs(keeps_together(case, ("size",)), many == 1)
            self.assertEqual(decide(case, ("size",))[0], "together" if many == 1 else "apart")

    def test_all_small_cases_end_alike_by_chances(self):
        for case in small_cases("bca"):
            for rule in [("chance", ("a",)), ("sure", ("a", "b")), ("atleast", ("b",), 1, 2), ("floor", ("c",), 2)]:
                self.assertEqual(unlike_worlds(case, rule, ("ann", "bob")), ())


if __name__ == "__main__":
    unittest.main()
