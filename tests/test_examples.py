"""The examples of the document's interface, word for word, and those of the README."""

import doctest
import pathlib
import re
import unittest

STAGE_1 = '''
>>> from talkedalike.cases import Case
>>> case = Case(["a", "b", "c"], [1, 1, 2], [("ann", (("a", "b"), ("c",))), ("bob", (("a",), ("c", "b")))])
>>> [case.cells("bob"), case.weight(("a", "c")), case.names]
[[('a',), ('b', 'c')], 3, ['ann', 'bob']]
'''

STAGE_2 = '''
>>> from talkedalike.cases import Case
>>> from talkedalike.knowing import all_know, chain, is_chain, knows, open_cells
>>> case = Case(["a", "b", "c", "d"], [1, 1, 1, 1], [("ann", (("a", "b"), ("c",), ("d",))), ("bob", (("a",), ("b", "c"), ("d",)))])
>>> [knows(case, "ann", ("a", "b", "c")), all_know(case, ("a", "b")), open_cells(case), chain(case, "a", "c"), chain(case, "a", "d")]
[('a', 'b', 'c'), ('a',), [('a', 'b', 'c'), ('d',)], [('ann', 'b'), ('bob', 'c')], None]
>>> is_chain(case, "c", "c", [])
True
'''

STAGE_3 = '''
>>> from talkedalike.cases import Case
>>> from talkedalike.rules import word_in, word_of
>>> case = Case(["a", "b", "c"], [1, 1, 2], [("ann", (("a", "b"), ("c",))), ("bob", (("a",), ("b", "c")))])
>>> [word_of(case, ("chance", ("a", "c")), ("a", "b")), word_of(case, ("atleast", ("a",), 1, 2), ("a", "c")), word_of(case, ("floor", ("c",), 10), ("b", "c")), word_of(case, ("best", (("go", (3, 0, 0)), ("stay", (0, 0, 1)))), ("a", "c"))]
[(1, 2), False, 6, 'go']
>>> word_in(case, ("both", ("size",), ("sure", ("c",))), "bob", "b")
(2, 'open')
'''

STAGE_4 = '''
>>> from talkedalike.cases import Case
>>> from talkedalike.talks import end, said, talk, talk_length, teaches
>>> case = Case(["a", "b", "c"], [1, 1, 1], [("ann", (("a", "b"), ("c",))), ("bob", (("a",), ("b", "c")))])
>>> [talk_length(case, ("chance", ("a",)), ("ann", "bob")), talk(case, ("chance", ("a",)), ("ann",)), said(case, ("chance", ("a",)), ("ann", "bob"), "b", 3)]
[2, [('ann', {'ann': [('a', 'b'), ('c',)], 'bob': [('a',), ('b',), ('c',)]})], [(1, 2), (0, 1), (0, 1)]]
>>> [end(case, ("chance", ("a",)), ("ann", "bob")).cells("ann"), teaches(case, ("size",), "ann")]
[[('a',), ('b',), ('c',)], True]
'''

STAGE_5 = '''
>>> from talkedalike.cases import Case
>>> from talkedalike.endings import are_alike, is_paper, paper, unlike_worlds
>>> case = Case(["a", "b", "c", "d"], [1, 1, 1, 1], [("ann", (("a", "b"), ("c", "d"))), ("bob", (("a", "c"), ("b", "d")))])
>>> rule = ("chance", ("a", "d"))
>>> [are_alike(case, rule, ("ann", "bob"), "a"), is_paper(case, rule, ("ann", "bob"), "a", ((1, 2), ("a", "b", "c", "d"))), unlike_worlds(case, ("size",), ("ann", "bob"))]
[True, True, ()]
'''

STAGE_6 = '''
>>> from talkedalike.cases import Case
>>> from talkedalike.verdicts import decide, keeps_together, least_split, quarrel
>>> case = Case(["a", "b", "c"], [1, 1, 1], [("ann", (("a", "b", "c"),))])
>>> [keeps_together(case, ("chance", ("a",))), decide(case, ("sure", ("b",))), least_split(case, ("size",)), quarrel(case, ("size",)).cells("one")]
[True, ('together', None), (('a',), ('b',)), [('a',), ('b',), ('c',)]]
'''

STAGE_7 = '''
>>> from talkedalike.cases import Case
>>> from talkedalike.whispers import deaf, deaf_case, leads, route, whispers
>>> case = Case(["a", "b"], [1, 1], [("ann", (("a",), ("b",))), ("bob", (("a", "b"),)), ("cas", (("a", "b"),))])
>>> web = [("ann", "bob"), ("bob", "cas")]
>>> [whispers(case, ("chance", ("a",)), web), route(case, web, "ann", "cas"), leads(case, web, "cas", "ann"), deaf(case, web), deaf_case(case, web).cells("bob")]
[2, [('ann', 'bob'), ('bob', 'cas')], False, ('ann',), [('here',), ('there',)]]
'''

STAGE_8 = '''
>>> from talkedalike.backs import are_told_apart, fits, rows, told_cells
>>> from talkedalike.cases import Case
>>> case = Case(["a", "b", "c"], [1, 1, 1], [("ann", (("a", "b"), ("c",))), ("bob", (("a",), ("b", "c")))])
>>> rule = ("sure", ("c",))
>>> [fits(case, rule, ("ann", "bob"), ["no"]), rows(case, rule, ("ann", "bob"), 2), told_cells(case, rule, ("ann", "bob")), are_told_apart(case, rule, ("ann", "bob"), ("a", "b"))]
[('a', 'b'), [['no', 'no'], ['yes', 'yes']], [('a', 'b'), ('c',)], False]
'''

STAGE_9 = '''
>>> from talkedalike.cases import Case
>>> from talkedalike.halls import Hall
>>> hall = Hall(Case(["a", "b"], [1, 1], [("ann", (("a",), ("b",))), ("bob", (("a", "b"),))]))
>>> [hall.say("bob", ("chance", ("a",))), hall.whisper("ann", "bob", ("sure", ("a",))), hall.case.cells("bob"), hall.heard("b"), hall.possible("b"), hall.undo()]
[None, None, [('a',), ('b',)], [(1, 2), 'no'], ('b',), ('whisper', 'ann', 'bob', ('sure', ('a',)))]
'''

STAGE_10 = r'''
>>> from talkedalike.cases import Case
>>> from talkedalike.texts import format_case, read_case
>>> case = Case(["a", "b", "c"], [1, 1, 2], [("ann", (("c",), ("b", "a"))), ("bob", (("a", "b", "c"),))])
>>> [format_case(case).split("\n"), read_case(format_case(case)) == case]
[['worlds a b c', 'weights 1 1 2', 'ann a b | c', 'bob a b c'], True]
>>> read_case("worlds a\nweights 0")
raises BadLine(2)
'''

STAGE_11 = '''
>>> from talkedalike.forms import first_apart, is_form, starts, word_for, words_of
>>> form = ("cut", "low", (("at", (1, 3), "mid"), ("above", (1, 2), "low")))
>>> [word_for(form, (1, 3)), word_for(form, (1, 2)), word_for(form, (2, 3)), words_of(form), is_form(("cut", 1, (("at", (0, 1), 2),)))]
['mid', 'mid', 'low', ['low', 'mid'], False]
>>> starts(("read", form, (("mid", 7), ("low", 7))))
[('at', (0, 1), 7)]
>>> [first_apart(form, ("cut", "low", (("at", (2, 5), "mid"), ("above", (1, 2), "low")))), first_apart(form, form)]
[(1, 3), None]
'''

STAGE_12 = '''
>>> from talkedalike.always import case_of, is_break, keeps_always, rule_of
>>> form = ("cut", "low", (("at", (1, 3), "mid"), ("above", (1, 2), "low")))
>>> [keeps_always(form), is_break(form, ((0, 1), (1, 2), (1, 1))), is_break(form, ((0, 1), (1, 4), (1, 1))), keeps_always(("cut", 0, (("above", (1, 2), 1),)))]
[False, True, False, True]
>>> from talkedalike.cases import Case
>>> from talkedalike.rules import word_of
>>> case, event = case_of(((0, 1), (1, 2), (1, 1)))
>>> sorted([word_of(case, ("chance", event), some) for some in case.cells("one") + case.cells("other")])
[(0, 1), (1, 1), (1, 2)]
>>> rule_of(form, Case(["a", "b"], [1, 1], [("ann", (("a", "b"),))]), ("a",))
('table', ((('a',), 0), (('a', 'b'), 1), (('b',), 0)))
'''

STAGE_13 = '''
>>> from talkedalike.joins import are_joins, is_good, is_whole, least_classes, read_by
>>> form = ("cut", "low", (("at", (1, 3), "mid"), ("above", (1, 2), "low"), ("at", (1, 1), "all")))
>>> [least_classes(form), is_good(form, [["all"], ["mid", "low"]]), read_by(form, [["all"], ["mid", "low"]])[2]]
[[['low', 'mid'], ['all']], True, (('low', 1), ('mid', 1), ('all', 0))]
>>> [are_joins(form, []), is_whole(form, []), is_whole(form, [((0, 1), (1, 2), (3, 4))])]
[True, False, True]
'''


class ExamplesTest(unittest.TestCase):
    def check(self, text):
        # What the document writes as "raises BadLine(2)" is for doctest the last line of a traceback.
        text = re.sub(r"(?m)^raises (\w+)\((.*)\)$", r"Traceback (most recent call last):\ntalkedalike.errors.\1: \2", text)
        example = doctest.DocTestParser().get_doctest(text, {}, self.id(), None, None)
        self.assertGreater(len(example.examples), 0)
        told = []
        results = doctest.DocTestRunner(verbose=False).run(example, out=told.append)
        self.assertEqual((results.failed, "".join(told)), (0, ""))

    def test_stage_1(self):
        self.check(STAGE_1)

    def test_stage_2(self):
        self.check(STAGE_2)

    def test_stage_3(self):
        self.check(STAGE_3)

    def test_stage_4(self):
        self.check(STAGE_4)

    def test_stage_5(self):
        self.check(STAGE_5)

    def test_stage_6(self):
        self.check(STAGE_6)

    def test_stage_7(self):
        self.check(STAGE_7)

    def test_stage_8(self):
        self.check(STAGE_8)

    def test_stage_9(self):
        self.check(STAGE_9)

    def test_stage_10(self):
        self.check(STAGE_10)

    def test_stage_11(self):
        self.check(STAGE_11)

    def test_stage_12(self):
        self.check(STAGE_12)

    def test_stage_13(self):
        self.check(STAGE_13)

    def test_readme(self):
        text = (pathlib.Path(__file__).parent.parent / "README.md").read_text(encoding="utf-8")
        self.check(text.replace("```", ""))


if __name__ == "__main__":
    unittest.main()
