"""Point [10], with the interface's stage 7: whisperings, from whom to whom a web leads, deaf sets."""

import unittest
from itertools import product

from talkedalike.cases import Case
from talkedalike.errors import BadRule, BadWeb, NoPerson
from talkedalike.rules import word_in
from talkedalike.whispers import deaf, deaf_case, is_deaf, leads, route, whispered, whispers
from tests import by_the_words
from tests.drawn import draw_case, draw_rule, draw_web, drawer
from tests.helpers import cells, exchanged, seen_of, values_of_all_kinds
from tests.refusing import CallChecks

KINDS = ["chance", "atleast", "floor", "sure", "best", "size", "table"]
CHANCE = ("chance", ("a",))
RING = [("ann", "bob"), ("bob", "cas"), ("cas", "dora"), ("dora", "ann")]
CHAIN = [("ann", "bob"), ("bob", "cas"), ("cas", "dora")]
TWO_PARTS = [("ann", "bob"), ("bob", "ann"), ("dora", "cas"), ("cas", "dora")]


def sets(words):
    return list(cells(words))


def people(**parts):
    """A case of people over worlds of one letter each, all weights 1: each person with cells written as words."""
    worlds = sorted(set("".join(parts.values())) - {" "})
    return Case(worlds, [1] * len(worlds), [(name, cells(words)) for name, words in parts.items()])


def four(worlds="ab"):
    return people(ann=" ".join(worlds), bob=worlds, cas=worlds, dora=worlds)


def cells_of(case):
    return {name: case.cells(name) for name in case.names}


class WhisperingTest(unittest.TestCase):
    def test_only_the_hearers_cells_are_parted(self):
        case = people(ann="ab c", bob="abc", cas="a bc")
        last = whispered(case, ("chance", ("c",)), [("ann", "bob")])
        self.assertEqual(cells_of(last), {"ann": sets("ab c"), "bob": sets("ab c"), "cas": sets("a bc")})
        self.assertEqual(whispers(case, ("chance", ("c",)), [("ann", "bob")]), 1)

    def test_the_rest_of_the_case_stays(self):
        case = Case(["c", "a", "b"], [3, 1, 2], [("zoe", cells("ac b")), ("al", cells("abc")), ("mo", cells("abc"))])
        last = whispered(case, ("size",), [("zoe", "mo")])
        due = (["c", "a", "b"], [3, 1, 2], ["zoe", "al", "mo"], [sets("ac b"), sets("abc"), sets("ac b")])
        self.assertEqual(seen_of(last), due)

    def test_along_a_chain(self):
        case = four()
        self.assertEqual(whispers(case, CHANCE, CHAIN), 3)
        self.assertEqual(cells_of(whispered(case, CHANCE, CHAIN)), {name: sets("a b") for name in case.names})

    def test_along_a_chain_from_behind_one_round_for_each(self):
        # In each round only the next one behind those who know is told something.
        case, web = four(), CHAIN[::-1]
        self.assertEqual(whispers(case, CHANCE, web), 3 + 2 + 2)
        self.assertEqual(cells_of(whispered(case, CHANCE, web)), {name: sets("a b") for name in case.names})

    def test_whispers_ahead_of_the_last_one_that_teaches_may_not_teach(self):
        case = people(ann="ab", bob="a b", cas="ab")
        # Ann has nothing to tell at first, then bob tells cas, and then the web begins anew.
        self.assertEqual(whispers(case, CHANCE, [("ann", "bob"), ("ann", "cas"), ("bob", "cas")]), 3)
        self.assertEqual(whispers(case, CHANCE, [("cas", "ann"), ("ann", "bob"), ("bob", "cas")]), 4)
        last = whispered(case, CHANCE, [("cas", "ann"), ("ann", "bob"), ("bob", "cas")])
        self.assertEqual(cells_of(last), {name: sets("a b") for name in case.names})

    def test_one_whisper_several_times(self):
        case = people(ann="a b", bob="ab", cas="ab")
        self.assertEqual(whispers(case, CHANCE, [("ann", "bob"), ("ann", "bob"), ("ann", "bob"), ("bob", "cas")]), 4)
        self.assertEqual(whispers(case, CHANCE, [("ann", "bob")] * 20), 1)
        self.assertEqual(whispers(case, CHANCE, [("bob", "cas")] * 10 + [("ann", "bob")] * 10), 21)

    def test_the_length_0(self):
        for case, rule, web in [
                (people(ann="ab", bob="a b"), CHANCE, [("ann", "bob")]), (people(ann="a b", bob="a b"), CHANCE, [("ann", "bob")]),
                (people(ann="a b", bob="ab"), ("size",), [("ann", "bob")]), (four(), CHANCE, [("cas", "dora"), ("dora", "bob")]),
                (people(ann="ab cd", bob="ac bd"), ("chance", ("a", "d")), [("ann", "bob"), ("bob", "ann")])]:
            self.assertEqual(whispers(case, rule, web), 0)
            self.assertEqual(whispered(case, rule, web), case)

    def test_what_is_whispered_back(self):
        case = people(ann="abc def gh", bob="abcd efgh")
        rule = ("chance", ("c", "d"))
        self.assertEqual(whispers(case, rule, [("ann", "bob"), ("bob", "ann")]), 3)
        last = whispered(case, rule, [("ann", "bob"), ("bob", "ann")])
        self.assertEqual(cells_of(last), {"ann": sets("abc d ef gh"), "bob": sets("abc d ef gh")})
        self.assertEqual(whispers(case, rule, [("ann", "bob")]), 1)
        self.assertEqual(cells_of(whispered(case, rule, [("ann", "bob")])), {"ann": sets("abc def gh"), "bob": sets("abcd ef gh")})

    def test_words_that_are_equal_in_python_and_not_one(self):
        # Ann says 1 of a table, or True; both are heard, and neither is taken for the other.
        case = people(ann="a b", bob="ab")
        self.assertEqual(whispers(case, ("both", ("atleast", ("a",), 1, 1), ("size",)), [("ann", "bob")]), 1)

    def test_drawn_cases(self):
        draw = drawer(10)
        lengths = set()
        for _ in range(200):
            case = draw_case(draw, most_people=4)
            if len(case.names) > 1:
                rule, web = draw_rule(draw, case, KINDS), draw_web(draw, case.names)
                due = by_the_words.whispering(case, rule, web)
                last = whispered(case, rule, web)
                self.assertEqual(cells_of(last), due[-1] if due else cells_of(case))
                self.assertEqual((last.worlds, last.weights, last.names), (case.worlds, case.weights, case.names))
                self.assertEqual(whispers(case, rule, web), len(due))
                self.assertEqual(whispers(last, rule, web), 0)
                lengths.add(min(len(due), 5))
        self.assertEqual(lengths, {0, 1, 2, 3, 4, 5})

    def test_as_many_people_worlds_and_whispers_as_may_be(self):
        names = ["ann", "bob", "cas", "dora", "emil", "fay"]
        parts = ["abcd efgh", "abef cdgh", "aceg bdfh", "abcdefgh", "abc def gh", "a bcdefgh"]
        case = Case(list("hgfedcba"), [10 ** 30 - 1 - k for k in range(8)], list(zip(names, map(cells, parts))))
        draw = drawer(11)
        for _ in range(5):
            web = draw_web(draw, names, 20)
            rule = draw_rule(draw, case, KINDS[:-1], 2)
            due = by_the_words.whispering(case, rule, web)
            self.assertEqual(whispers(case, rule, web), len(due))
            self.assertEqual(cells_of(whispered(case, rule, web)), due[-1] if due else cells_of(case))


class LeadsTest(unittest.TestCase):
    def test_a_chain(self):
        case = four()
        names = case.names
        for at, person in enumerate(names):
            for there, other in enumerate(names):
                due = CHAIN[at:there] if at <= there else None
                self.assertEqual(route(case, CHAIN, person, other), due)
                self.assertIs(leads(case, CHAIN, person, other), at <= there)

    def test_a_ring(self):
        case = four()
        for at, person in enumerate(case.names):
            for there, other in enumerate(case.names):
                due = (RING + RING)[at:at + (there - at) % 4]
                self.assertEqual(route(case, RING, person, other), due)
                self.assertIs(leads(case, RING, person, other), True)

    def test_a_web_in_two_parts(self):
        case = four()
        told = {pair: leads(case, TWO_PARTS, *pair) for pair in product(case.names, repeat=2)}
        parts = [{"ann", "bob"}, {"cas", "dora"}]
        self.assertEqual(told, {pair: any(set(pair) <= part for part in parts) for pair in told})
        self.assertIsNone(route(case, TWO_PARTS, "bob", "cas"))
        self.assertEqual(route(case, TWO_PARTS, "dora", "cas"), [("dora", "cas")])

    def test_to_oneself_even_where_nobody_whispers_to_or_from_them(self):
        case, web = four(), [("ann", "bob")]
        for name in case.names:
            self.assertIs(leads(case, web, name, name), True)
            self.assertEqual(route(case, web, name, name), [])

    def test_the_shorter_one_of_two_ways(self):
        web = RING + [("ann", "dora"), ("ann", "dora")]
        self.assertEqual(route(four(), web, "ann", "dora"), [("ann", "dora")])
        self.assertEqual(route(four(), web, "bob", "dora"), [("bob", "cas"), ("cas", "dora")])

    def test_drawn_webs(self):
        draw = drawer(101)
        found = set()
        for _ in range(60):
            case = four() if draw.random() < 0.5 else people(bob="ab", ann="ab", cas="a b", fay="ab", emil="ab")
            web = draw_web(draw, case.names, 6)
            for person, other in product(case.names, repeat=2):
                due = by_the_words.shortest_way(case.names, web, person, other)
                told = route(case, web, person, other)
                self.assertIs(leads(case, web, person, other), due is not None)
                found.add(due)
                if due is None:
                    self.assertIsNone(told)
                else:
                    self.assertIs(type(told), list)
                    self.assertEqual(len(told), due)
                    self.assertTrue(by_the_words.is_way(web, person, other, told))
        self.assertTrue({None, 0, 1, 2, 3} <= found, found)


class DeafTest(unittest.TestCase):
    def test_by_hand(self):
        self.assertEqual(deaf(four(), CHAIN), ("ann",))
        self.assertEqual(deaf(four(), CHAIN[1:]), ("ann",))
        self.assertEqual(deaf(four(), CHAIN[1:] + [("cas", "bob"), ("dora", "ann")]), ("bob", "cas"))
        self.assertIsNone(deaf(four(), RING))
        self.assertEqual(deaf(four(), TWO_PARTS), ("ann", "bob"))
        self.assertEqual(deaf(four(), TWO_PARTS + [("dora", "ann")]), ("cas", "dora"))
        self.assertEqual(deaf(four(), RING[:2] + [("cas", "ann")]), ("dora",))
        # Dora, who is told nothing, is deaf by herself, even if she tells others.
        self.assertEqual(deaf(four(), [("dora", "ann"), ("ann", "bob"), ("bob", "ann"), ("ann", "cas")]), ("dora",))

    def test_ascending_by_names_not_in_the_order_of_the_case(self):
        case = people(zoe="ab", al="ab", mo="a b")
        self.assertEqual(deaf(case, [("zoe", "mo"), ("mo", "zoe"), ("zoe", "al")]), ("mo", "zoe"))
        self.assertEqual(deaf(case, [("zoe", "mo")]), ("al",))

    def test_all_sets_of_small_webs(self):
        draw = drawer(102)
        found = set()
        for _ in range(150):
            names = draw.sample(["ann", "bob", "cas", "dora", "emil"], draw.randint(2, 5))
            case = people(**{name: "ab" for name in names})
            web = draw_web(draw, names, 8)
            due = by_the_words.deaf_sets(names, web)
            self.assertEqual(deaf(case, web), due[0] if due else None)
            found.add(len(due[0]) if due else None)
            for some in by_the_words.all_sets(names) + [()]:
                self.assertIs(is_deaf(case, web, some), some in due)
                self.assertIs(is_deaf(case, web, some[::-1]), some[::-1] in due)
        self.assertTrue({None, 1, 2} <= found, found)

    def test_it_is_there_just_if_whispers_do_not_lead_from_everybody_to_everybody(self):
        draw = drawer(103)
        for _ in range(80):
            case = four()
            web = draw_web(draw, case.names, 9)
            everywhere = all(leads(case, web, *pair) for pair in product(case.names, repeat=2))
            self.assertIs(deaf(case, web) is None, everywhere)

    def test_values_of_any_kind(self):
        case, web = four(), TWO_PARTS
        for value in values_of_all_kinds() + [case, web, (case,), ("ann", case), BadWeb(web), "ann", ["ann", "bob"], [], (), {},
                                              ("ann", "ann", "bob"), ("bob", "ann"), ("ann", "eve"), ("ann", ["bob"]), ("", "ann"),
                                              ("ann", "bob", "cas", "dora"), (("ann", "bob"),), ("ann", "bob", 1), {"ann": "bob"}]:
            before = repr(value)
            self.assertIs(is_deaf(case, web, value), False, value)
            self.assertEqual(repr(value), before)

    def test_with_one_thing_exchanged(self):
        due = by_the_words.deaf_sets(four().names, TWO_PARTS)
        self.assertEqual(due, [("ann", "bob"), ("cas", "dora")])
        for good in due:
            self.assertIs(is_deaf(four(), TWO_PARTS, good), True)
            for value in exchanged(good):
                self.assertIs(is_deaf(four(), TWO_PARTS, value), value in due, value)


class DeafCaseTest(unittest.TestCase):
    def test_by_hand(self):
        case = Case(["c", "a", "b"], [3, 1, 2], [("zoe", cells("ac b")), ("al", cells("abc")), ("mo", cells("abc"))])
        told = deaf_case(case, [("zoe", "mo"), ("mo", "zoe"), ("zoe", "al")])
        self.assertIs(type(told), Case)
        one, two = [("here", "there")], [("here",), ("there",)]
        self.assertEqual(seen_of(told), (["here", "there"], [1, 1], ["zoe", "al", "mo"], [one, two, one]))
        self.assertIsNone(deaf_case(four(), RING))

    def test_those_who_are_deaf_are_unlike_the_others_for_ever(self):
        draw = drawer(104)
        rule, found = ("chance", ("here",)), 0
        for _ in range(80):
            case = draw_case(draw, most_people=5)
            if len(case.names) > 1:
                web = draw_web(draw, case.names, 5)
                some, made = deaf(case, web), deaf_case(case, web)
                if some is None:
                    self.assertIsNone(made)
                    continue
                found += 1
                self.assertEqual((made.worlds, made.weights, made.names), (["here", "there"], [1, 1], case.names))
                last = whispered(made, rule, web)
                for world in ("here", "there"):
                    told = {name: word_in(last, rule, name, world) for name in last.names}
                    sure = (1, 1) if world == "here" else (0, 1)
                    self.assertEqual(told, {name: (1, 2) if name in some else sure for name in last.names})
        self.assertGreater(found, 30)

    def test_chances_end_alike_in_each_world_where_there_is_no_deaf_set(self):
        draw = drawer(105)
        for _ in range(80):
            case = draw_case(draw, most_people=4)
            if len(case.names) > 1:
                ring = list(zip(case.names, case.names[1:] + case.names[:1]))
                web = ring + draw_web(draw, case.names, 3)
                draw.shuffle(web)
                self.assertIsNone(deaf(case, web))
                rule = ("chance", draw.choice(by_the_words.all_sets(case.worlds)))
                last = whispered(case, rule, web)
                for world in case.worlds:
                    self.assertEqual(len({word_in(last, rule, name, world) for name in case.names}), 1)


def a_case():
    return people(ann="ab c", bob="a bc", cas="abc")


A_WEB = [("ann", "bob"), ("bob", "cas"), ("ann", "bob")]
NOBODY = values_of_all_kinds() + ["eve", "a", "", ["ann"], ("ann",), {"ann": 1}, [], ()]
BAD = {
    "rule": (BadRule, values_of_all_kinds() + [(), "size", ["size"], ("size", 1), ("chance", ["a"]), ("both", ("size",)), {}]),
    "web": (BadWeb, values_of_all_kinds() + [
        [], (), tuple(A_WEB), [("ann", "ann")], A_WEB + [("bob", "bob")], A_WEB + [("ann", "eve")], A_WEB + [("eve", "ann")],
        A_WEB + [["ann", "bob"]], A_WEB + ["ann"], A_WEB + [("ann",)], A_WEB + [("ann", "bob", "cas")], A_WEB + [()],
        A_WEB + [("ann", 1)], A_WEB + [(["ann"], "bob")], A_WEB + [("ann", None)], ("ann", "bob"), {("ann", "bob"): 1},
        [A_WEB], [("a", "b")], "ann"]),
    "person": (NoPerson, NOBODY), "other": (NoPerson, NOBODY),
}


class RefusalsTest(CallChecks, unittest.TestCase):
    bad = BAD

    def calls(self):
        ruled = {"case": a_case(), "rule": CHANCE, "web": list(A_WEB)}
        webbed = {"case": a_case(), "web": list(A_WEB)}
        ways = {**webbed, "person": "ann", "other": "cas"}
        return [(whispered, ruled), (whispers, ruled), (leads, ways), (route, ways), (deaf, webbed),
                (is_deaf, {**webbed, "value": ("ann",)}), (deaf_case, webbed)]

    def test_as_many_pairs_of_refusals_as_there_are(self):
        self.assertEqual(self.unlike_pairs(), 1 + 1 + 3 + 3)

    def test_nobody_can_whisper_alone(self):
        case = people(ann="ab")
        for web in [[], [("ann", "ann")], [("ann", "bob")]]:
            self.refused_value(BadWeb, web, whispers, case, CHANCE, web)
            self.refused_value(BadWeb, web, deaf, case, web)


class UnchangedTest(unittest.TestCase):
    def test_what_is_told_may_be_changed(self):
        case, web = four(), list(RING)
        told = route(case, web, "ann", "dora")
        told.clear()
        self.assertEqual(route(case, web, "ann", "dora"), RING[:3])
        route(case, web, "ann", "ann").append(1)
        self.assertEqual(route(case, web, "ann", "ann"), [])
        last = whispered(case, CHANCE, web)
        last.cells("ann").clear()
        last.worlds.clear()
        self.assertEqual((case, web), (four(), RING))
        self.assertEqual(whispered(case, CHANCE, web), last)

    def test_the_web_may_be_changed_afterwards(self):
        web = list(CHAIN)
        told, last = route(four(), web, "ann", "dora"), whispered(four(), CHANCE, web)
        web.clear()
        self.assertEqual(told, CHAIN)
        self.assertEqual(last, whispered(four(), CHANCE, CHAIN))


if __name__ == "__main__":
    unittest.main()
