"""The inputs that took longest at one time: what is told of them stays what it was then."""

import hashlib
import unittest

from talkedalike.cases import Case
from talkedalike.endings import are_alike, is_paper, is_settled, paper, unlike_worlds
from talkedalike.errors import NotSettled
from talkedalike.talks import after, end, said, talk, talk_length, teaches
from talkedalike.verdicts import decide, is_split, keeps_together, least_split, quarrel, splits
from tests.helpers import Refusals, cells, exchanged

WORLDS = list("abcdefgh")
WEIGHTS = [1, 2, 3, 4, 5, 6, 7, 8]
ORDER = ("ann", "bob", "cas", "dot", "eve", "fay", "ann", "bob", "cas", "dot")
CHANCE = ("chance", ("a", "c", "e"))
BEST = ("best", (("go", (3, 1, 4, 1, 5, 9, 2, 6)), ("stay", (2, 7, 1, 8, 2, 8, 1, 8))))
GREAT = ("both", ("both", ("both", ("both", ("both", CHANCE, BEST), BEST), BEST), BEST), BEST)
SPLITS = "240f83d9e6f77d5cf3f43197db7faca34fbd029f2c52f96f1b04024b79f93942"
ROW = "db28fdfd1ca85d84e77d8e5879baa7eed336d7546214eccbc40f52456527b8ce"


def a_case():
    return Case(WORLDS, WEIGHTS, [
        ("ann", cells("ab cd ef gh")), ("bob", cells("a bc de fg h")), ("cas", cells("abcd efgh")), ("dot", cells("abcdefgh")),
        ("eve", cells("abcdefgh")), ("fay", cells("ah bg cf de"))])


def one_person():
    return Case(WORLDS, WEIGHTS, [("ann", cells("abcdefgh"))])


def written(told):
    """Cells as talk tells them, written as words."""
    return {name: " ".join("".join(some) for some in told[name]) for name in told}


def great(chance, deeds):
    """The word of GREAT for a chance and the names of the best deed, five times the same."""
    word = chance
    for _ in range(5):
        word = (word, deeds)
    return word


def digest(value):
    return hashlib.sha256(repr(value).encode()).hexdigest()


class TalksTest(unittest.TestCase):
    def test_talks_and_their_length(self):
        first = {"ann": "ab cd ef gh", "bob": "a b c d e f g h", "cas": "ab cd ef gh", "dot": "ab cd ef gh", "eve": "ab cd ef gh",
                 "fay": "a b c d e f g h"}
        for rule, others in [(CHANCE, "a b c d e f gh"), (GREAT, "a b c d e f g h")]:
            second = {name: first[name] if name in ("bob", "fay") else others for name in first}
            told = talk(a_case(), rule, ORDER)
            self.assertEqual([(speaker, written(behind)) for speaker, behind in told], [("ann", first), ("bob", second)])
            self.assertEqual(talk_length(a_case(), rule, ORDER), 2)
            last = end(a_case(), rule, ORDER)
            self.assertEqual(written({name: last.cells(name) for name in last.names}), second)
            self.assertEqual((last.worlds, last.weights, last.names), (WORLDS, WEIGHTS, a_case().names))

    def test_turns(self):
        for rule in (CHANCE, GREAT):
            told = [teaches(a_case(), rule, name) for name in ("ann", "bob", "cas", "dot", "eve", "fay")]
            self.assertEqual(told, [True, True, True, False, False, True])
            behind = after(a_case(), rule, "cas")
            due = {"ann": "ab cd ef gh", "bob": "a bc d e fg h", "cas": "abcd efgh", "dot": "abcd efgh", "eve": "abcd efgh",
                   "fay": "a b c d e f g h"}
            self.assertEqual(written({name: behind.cells(name) for name in behind.names}), due)

    def test_rows(self):
        firsts = {"a": (1, 3), "b": (1, 3), "c": (3, 7), "d": (3, 7), "e": (5, 11), "f": (5, 11), "g": (0, 1), "h": (0, 1)}
        for world, first in firsts.items():
            later = (1, 1) if world in "ace" else (0, 1)
            self.assertEqual(said(a_case(), CHANCE, ORDER, world, 1000), [first] + [later] * 999)
            deed, deed_later = "go" if world in "ef" else "stay", "stay" if world in "bdh" else "go"
            row = said(a_case(), GREAT, ORDER, world, 1000)
            self.assertEqual(row, [great(first, deed)] + [great(later, deed_later)] * 999)
        self.assertEqual(digest(said(a_case(), GREAT, ORDER, "a", 1000)), ROW)


class EndingsTest(Refusals, unittest.TestCase):
    def test_whether_it_is_settled(self):
        for rule in (CHANCE, GREAT):
            self.assertIs(is_settled(a_case(), rule, ORDER), False)
            self.assertIs(is_settled(end(a_case(), rule, ORDER), rule, ORDER), True)
            self.assertEqual([are_alike(a_case(), rule, ORDER, world) for world in WORLDS], [False] * 8)
            self.assertEqual([are_alike(end(a_case(), rule, ORDER), rule, ORDER, world) for world in WORLDS], [True] * 8)
            self.assertEqual(unlike_worlds(a_case(), rule, ORDER), ())

    def test_papers(self):
        for rule in (CHANCE, GREAT):
            last = end(a_case(), rule, ORDER)
            for world in WORLDS:
                chance = (1, 1) if world in "ace" else (0, 1)
                word = chance if rule == CHANCE else great(chance, "stay" if world in "bdh" else "go")
                some = ("g", "h") if rule == CHANCE and world in "gh" else (world,)
                self.assertEqual(paper(last, rule, ORDER, world), (word, some))
                self.assertIs(is_paper(last, rule, ORDER, world, (word, some)), True)
                for value in exchanged((word, some))[:40]:
                    self.assertIs(is_paper(last, rule, ORDER, world, value), False, value)
                self.refused(NotSettled, paper, a_case(), rule, ORDER, world, attributes={})
                self.refused(NotSettled, is_paper, a_case(), rule, ORDER, world, (word, some), attributes={})


class VerdictsTest(unittest.TestCase):
    def test_numbers_of_worlds(self):
        told = splits(one_person(), ("size",))
        self.assertEqual(len(told), 553)
        self.assertEqual(told[:3], [(("a",), ("b",)), (("a",), ("c",)), (("a",), ("d",))])
        self.assertEqual(told[-1], (("a", "f", "g", "h"), ("b", "c", "d", "e")))
        self.assertEqual(digest(told), SPLITS)
        self.assertEqual([is_split(one_person(), ("size",), split) for split in told], [True] * 553)
        self.assertIs(keeps_together(one_person(), ("size",)), False)
        self.assertEqual(least_split(one_person(), ("size",)), (("a",), ("b",)))
        made = Case(WORLDS, WEIGHTS, [("one", cells("a b c d e f g h")), ("other", cells("ab c d e f g h"))])
        self.assertEqual(quarrel(one_person(), ("size",)), made)
        self.assertEqual(decide(one_person(), ("size",)), ("apart", (("a",), ("b",)), made))

    def test_chances_and_best_deeds(self):
        self.assertEqual(splits(one_person(), GREAT), [])
        self.assertIs(keeps_together(one_person(), GREAT), True)
        self.assertIsNone(least_split(one_person(), GREAT))
        self.assertIsNone(quarrel(one_person(), GREAT))
        self.assertEqual(decide(one_person(), GREAT), ("together", None))


if __name__ == "__main__":
    unittest.main()
