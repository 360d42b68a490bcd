"""The examples of the document's interface, word for word, and those of the README."""

import doctest
import pathlib
import unittest

STAGE_1 = '''
>>> from talkedalike.cases import Case
>>> case = Case(["a", "b", "c"], [1, 1, 2], [("ann", (("a", "b"), ("c",))), ("bob", (("a",), ("c", "b")))])
>>> [case.cells("bob"), case.weight(("a", "c")), case.names]
[[('a',), ('b', 'c')], 3, ['ann', 'bob']]
'''

STAGE_2 = '''
>>> from talkedalike.cases import Case
>>> from talkedalike.knowing import all_know, chain, is_chain, knows, open_cells
>>> case = Case(["a", "b", "c", "d"], [1, 1, 1, 1], [("ann", (("a", "b"), ("c",), ("d",))), ("bob", (("a",), ("b", "c"), ("d",)))])
>>> [knows(case, "ann", ("a", "b", "c")), all_know(case, ("a", "b")), open_cells(case), chain(case, "a", "c"), chain(case, "a", "d")]
[('a', 'b', 'c'), ('a',), [('a', 'b', 'c'), ('d',)], [('ann', 'b'), ('bob', 'c')], None]
>>> is_chain(case, "c", "c", [])
True
'''


class ExamplesTest(unittest.TestCase):
    def check(self, text):
        example = doctest.DocTestParser().get_doctest(text, {}, self.id(), None, None)
        self.assertGreater(len(example.examples), 0)
        told = []
        results = doctest.DocTestRunner(verbose=False).run(example, out=told.append)
        self.assertEqual((results.failed, "".join(told)), (0, ""))

    def test_stage_1(self):
        self.check(STAGE_1)

    def test_stage_2(self):
        self.check(STAGE_2)

    def test_readme(self):
        text = (pathlib.Path(__file__).parent.parent / "README.md").read_text(encoding="utf-8")
        self.check(text.replace("```", ""))


if __name__ == "__main__":
    unittest.main()
