"""Points [3], [5], [6], [8], [9] over the whole program: other names, greater weights, much that is asked twice over."""

import unittest

from talkedalike.always import break_of, case_of, keeps_always, rule_of
from talkedalike.backs import fits, rows, told_cells
from talkedalike.cases import Case
from talkedalike.endings import are_alike, is_settled, paper, unlike_worlds
from talkedalike.forms import first_apart, starts, words_of
from talkedalike.halls import Hall, replayed
from talkedalike.joins import joins, least_classes, read_by
from talkedalike.knowing import all_know, chain, knows, open_cells
from talkedalike.rules import word_in, words
from talkedalike.talks import after, end, said, talk, talk_length, teaches
from talkedalike.texts import format_case, read_case
from talkedalike.verdicts import decide, is_split, keeps_together, quarrel, splits
from talkedalike.whispers import deaf, deaf_case, leads, route, whispered, whispers
from tests.drawn import draw_case, draw_cells, draw_event, draw_form, draw_hall_events, draw_order, draw_rule, draw_three
from tests.drawn import draw_web, drawer
from tests.helpers import seen_of

KINDS = ["chance", "atleast", "floor", "sure", "best", "size", "table"]
WORLDS = {"a": "some", "b": "abc", "c": "b", "d": "zoo", "e": "a"}
PEOPLE = {"ann": "zoe", "bob": "al", "cas": "cas", "dora": "ann", "emil": "yes", "fay": "no"}


def some_in(some):
    """A set or an event with the other names, ascending."""
    return tuple(sorted(WORLDS[world] for world in some))


def cells_in(cells):
    return sorted(some_in(some) for some in cells)


def case_in(case):
    people = [(PEOPLE[name], tuple(some_in(some) for some in case.cells(name))) for name in case.names]
    return Case([WORLDS[world] for world in case.worlds], case.weights, people)


def rule_in(rule):
    if rule[0] == "both":
        return ("both", rule_in(rule[1]), rule_in(rule[2]))
    if rule[0] == "table":
        return ("table", tuple(sorted((some_in(some), word) for some, word in rule[1])))
    return rule if rule[0] in ("size", "best") else (rule[0], some_in(rule[1])) + rule[2:]


def order_in(order):
    return tuple(PEOPLE[name] for name in order)


def web_in(web):
    return [order_in(whisper) for whisper in web]


def event_in(event):
    """An event of a hall with the other names."""
    if event[0] in ("say", "whisper"):
        return (event[0],) + order_in(event[1:-1]) + (rule_in(event[-1]),)
    if event[0] == "look":
        return ("look", PEOPLE[event[1]], some_in(event[2]))
    if event[0] == "come":
        return ("come", PEOPLE[event[1]], tuple(some_in(some) for some in event[2]))
    return ("leave", PEOPLE[event[1]])


def split_in(split):
    return tuple(sorted(some_in(some) for some in split))


class OtherNamesTest(unittest.TestCase):
    def drawn(self, seed, many, least_people=1):
        draw = drawer(seed)
        for _ in range(many):
            case = draw_case(draw)
            if len(case.names) >= least_people:
                yield draw, case, case_in(case)

    def test_knowing(self):
        for draw, case, other in self.drawn(31, 40):
            event = draw_event(draw, case)
            for name in case.names:
                self.assertEqual(knows(other, PEOPLE[name], some_in(event)), some_in(knows(case, name, event)))
            self.assertEqual(all_know(other, some_in(event)), some_in(all_know(case, event)))
            self.assertEqual(open_cells(other), cells_in(open_cells(case)))
            for one in case.worlds:
                told, due = chain(other, WORLDS[case.worlds[0]], WORLDS[one]), chain(case, case.worlds[0], one)
                self.assertEqual(told is None, due is None)
                self.assertEqual(len(told or []), len(due or []))

    def test_rules_and_talks(self):
        for draw, case, other in self.drawn(32, 80):
            rule, order = draw_rule(draw, case, KINDS), draw_order(draw, case)
            rule_too, order_too = rule_in(rule), order_in(order)
            self.assertEqual({some: word for some, word in words(other, rule_too)},
                             {some_in(some): word for some, word in words(case, rule)})
            due = [(PEOPLE[speaker], {PEOPLE[name]: cells_in(cells[name]) for name in cells})
                   for speaker, cells in talk(case, rule, order)]
            self.assertEqual(talk(other, rule_too, order_too), due)
            self.assertEqual(talk_length(other, rule_too, order_too), talk_length(case, rule, order))
            self.assertEqual(end(other, rule_too, order_too), case_in(end(case, rule, order)))
            self.assertIs(is_settled(other, rule_too, order_too), is_settled(case, rule, order))
            self.assertEqual(unlike_worlds(other, rule_too, order_too), some_in(unlike_worlds(case, rule, order)))
            self.assertEqual(rows(other, rule_too, order_too, 7), rows(case, rule, order, 7))
            self.assertEqual(told_cells(other, rule_too, order_too), cells_in(told_cells(case, rule, order)))
            for world in case.worlds:
                world_too = WORLDS[world]
                self.assertEqual(said(other, rule_too, order_too, world_too, 9), said(case, rule, order, world, 9))
                self.assertIs(are_alike(other, rule_too, order_too, world_too), are_alike(case, rule, order, world))
                heard = said(case, rule, order, world, 3)
                self.assertEqual(fits(other, rule_too, order_too, heard), some_in(fits(case, rule, order, heard)))
                for name in case.names:
                    self.assertEqual(word_in(other, rule_too, PEOPLE[name], world_too), word_in(case, rule, name, world))
                    self.assertEqual(after(other, rule_too, PEOPLE[name]), case_in(after(case, rule, name)))
                    self.assertIs(teaches(other, rule_too, PEOPLE[name]), teaches(case, rule, name))

    def test_papers(self):
        for draw, case, _ in self.drawn(33, 60):
            rule, order = draw_rule(draw, case, KINDS), draw_order(draw, case)
            case = end(case, rule, order)
            for world in case.worlds:
                due = paper(case, rule, order, world)
                told = paper(case_in(case), rule_in(rule), order_in(order), WORLDS[world])
                self.assertEqual(told, due and (due[0], some_in(due[1])))

    def test_verdicts(self):
        for draw, case, other in self.drawn(34, 60):
            rule = draw_rule(draw, case, ["size", "table", "chance"])
            due = splits(case, rule)
            self.assertEqual(sorted(splits(other, rule_in(rule))), sorted(split_in(split) for split in due))
            self.assertIs(keeps_together(other, rule_in(rule)), keeps_together(case, rule))
            for split in due:
                self.assertIs(is_split(other, rule_in(rule), split_in(split)), True)

    def test_whispers(self):
        for draw, case, other in self.drawn(35, 60, least_people=2):
            rule, web = draw_rule(draw, case, KINDS), draw_web(draw, case.names)
            self.assertEqual(whispers(other, rule_in(rule), web_in(web)), whispers(case, rule, web))
            self.assertEqual(whispered(other, rule_in(rule), web_in(web)), case_in(whispered(case, rule, web)))
            self.assertEqual(len(deaf(other, web_in(web)) or ()), len(deaf(case, web) or ()))
            for one in case.names:
                for two in case.names:
                    self.assertIs(leads(other, web_in(web), PEOPLE[one], PEOPLE[two]), leads(case, web, one, two))
                    told, due = route(other, web_in(web), PEOPLE[one], PEOPLE[two]), route(case, web, one, two)
                    self.assertEqual((told is None, len(told or ())), (due is None, len(due or ())))

    def test_halls(self):
        for draw, case, other in self.drawn(36, 60):
            events = draw_hall_events(draw, case, KINDS, 6)
            hall, hall_too = replayed(case, events), replayed(other, [event_in(event) for event in events])
            self.assertEqual(hall_too.case, case_in(hall.case))
            for world in case.worlds:
                self.assertEqual(hall_too.heard(WORLDS[world]), hall.heard(world))
                self.assertEqual(hall_too.possible(WORLDS[world]), some_in(hall.possible(world)))


class GreaterWeightsTest(unittest.TestCase):
    def test_weights_so_many_times_as_great_change_nothing(self):
        draw = drawer(41)
        for _ in range(80):
            case, times = draw_case(draw), draw.choice([2, 3, 10 ** 12])
            people = [(name, tuple(case.cells(name))) for name in case.names]
            other = Case(case.worlds, [weight * times for weight in case.weights], people)
            rule, order = draw_rule(draw, case, KINDS), draw_order(draw, case)
            self.assertEqual(words(other, rule), words(case, rule))
            self.assertEqual(talk(other, rule, order), talk(case, rule, order))
            self.assertEqual(rows(other, rule, order, 9), rows(case, rule, order, 9))
            self.assertEqual(told_cells(other, rule, order), told_cells(case, rule, order))
            self.assertEqual(unlike_worlds(other, rule, order), unlike_worlds(case, rule, order))
            self.assertEqual(splits(other, rule), splits(case, rule))
            events = draw_hall_events(draw, case, KINDS, 4)
            hall, hall_too = replayed(case, events), replayed(other, events)
            for world in case.worlds:
                self.assertEqual(hall_too.heard(world), hall.heard(world))
            for name in hall.case.names:
                self.assertEqual(hall_too.case.cells(name), hall.case.cells(name))
            if len(case.names) > 1:
                web = draw_web(draw, case.names)
                self.assertEqual(whispers(other, rule, web), whispers(case, rule, web))


def seen(value):
    """What there is to see of an answer."""
    if isinstance(value, Case):
        return ("case", seen_of(value))
    if isinstance(value, Hall):
        return ("hall", seen_of(value.case), value.history, [value.heard(world) for world in value.case.worlds])
    return (type(value), value)


def questions(draw, case):
    """Questions about one case, each as a function and its arguments."""
    found = []
    for _ in range(3):
        rule, order, world = draw_rule(draw, case, KINDS), draw_order(draw, case), draw.choice(case.worlds)
        event, person, turns = draw_event(draw, case), draw.choice(case.names), draw.randrange(30)
        heard = said(case, rule, order, world, turns)
        found += [
            (knows, case, person, event), (open_cells, case), (chain, case, world, case.worlds[0]), (words, case, rule),
            (word_in, case, rule, person, world), (after, case, rule, person), (teaches, case, rule, person),
            (talk, case, rule, order), (talk_length, case, rule, order), (end, case, rule, order),
            (said, case, rule, order, world, turns), (is_settled, case, rule, order), (are_alike, case, rule, order, world),
            (unlike_worlds, case, rule, order), (splits, case, rule), (fits, case, rule, order, heard),
            (rows, case, rule, order, turns), (told_cells, case, rule, order),
            (replayed, case, draw_hall_events(draw, case, KINDS, 3)),
        ]
        if not splits(case, rule):
            found += [(decide, case, rule), (paper, end(case, rule, order), rule, order, world)]
        if len(case.names) > 1:
            web = draw_web(draw, case.names)
            found += [(whispered, case, rule, web), (whispers, case, rule, web), (deaf, case, web), (deaf_case, case, web)]
            found += [(leads, case, web, person, case.names[0]), (route, case, web, case.names[0], person)]
    return found


class AskedMuchTest(unittest.TestCase):
    def test_equal_questions_have_equal_answers_in_whatever_sequence(self):
        draw = drawer(51)
        for _ in range(25):
            case = draw_case(draw)
            asked = questions(draw, case)
            before = seen_of(case)
            due = [seen(question(*given)) for question, *given in asked]
            for _ in range(2):
                sequence = list(range(len(asked)))
                draw.shuffle(sequence)
                for number in sequence:
                    question, *given = asked[number]
                    self.assertEqual(seen(question(*given)), due[number])
            self.assertEqual(seen_of(case), before)

    def test_of_forms(self):
        draw = drawer(52)
        forms = [draw_form(draw, draw.randrange(3)) for _ in range(30)]
        asked = [(question, form) for form in forms for question in (starts, words_of, keeps_always, break_of, least_classes, joins)]
        asked += [(first_apart, one, other) for one, other in zip(forms, forms[1:])] + [(case_of, draw_three(draw)) for _ in range(9)]
        due = [question(*given) for question, *given in asked]
        for _ in range(2):
            sequence = list(range(len(asked)))
            draw.shuffle(sequence)
            for number in sequence:
                question, *given = asked[number]
                self.assertEqual(question(*given), due[number])


def came_of_calls(draw, case):
    """Cases that came of calls, made of one case."""
    rule, order = draw_rule(draw, case, KINDS), draw_order(draw, case)
    found = [after(case, rule, draw.choice(case.names)), end(case, rule, order), read_case(format_case(case)),
             case.with_cells(draw.choice(case.names), draw_cells(draw, case.worlds)), case_of(draw_three(draw))[0],
             quarrel(case, rule), replayed(case, draw_hall_events(draw, case, KINDS, 5)).case]
    hall = Hall(case)
    hall.look(draw.choice(case.names), draw_event(draw, case))
    found.append(hall.fork().case)
    if len(case.names) > 1:
        web = draw_web(draw, case.names)
        found += [whispered(case, rule, web), deaf_case(case, web)]
    return [made for made in found if made is not None]


class CameOfACallTest(unittest.TestCase):
    def test_it_answers_as_a_case_made_anew_with_its_parts_does(self):
        draw = drawer(53)
        kinds = set()
        for _ in range(25):
            for case in came_of_calls(draw, draw_case(draw, most_worlds=4)):
                # The parts are handed in otherwise, but they are the same.
                people = [(name, tuple(some[::-1] for some in case.cells(name)[::-1])) for name in case.names]
                again = Case(tuple(case.worlds), tuple(case.weights), tuple(people))
                self.assertEqual(case, again)
                self.assertEqual(again, case)
                self.assertEqual(seen_of(case), seen_of(again))
                self.assertEqual(format_case(case), format_case(again))
                for name in case.names:
                    self.assertEqual(case.with_cells(name, ((tuple(case.worlds)),)), again.with_cells(name, ((tuple(case.worlds)),)))
                for question, first, *given in questions(draw, case):
                    if first is case:
                        kinds.add(question.__name__)
                        self.assertEqual(seen(question(case, *given)), seen(question(again, *given)))
        self.assertGreater(len(kinds), 22)

    def test_cases_written_and_read_tell_the_same(self):
        draw = drawer(54)
        for _ in range(25):
            case = draw_case(draw)
            for question, first, *given in questions(draw, case):
                if first is case:
                    self.assertEqual(seen(question(read_case(format_case(case)), *given)), seen(question(case, *given)))


class RulesOfFormsTest(unittest.TestCase):
    def test_a_form_read_by_its_least_classes_brings_all_talks_to_one_word(self):
        draw = drawer(55)
        for _ in range(120):
            case, form = draw_case(draw), draw_form(draw, draw.randrange(3))
            event, order = draw_event(draw, case), draw_order(draw, case)
            read = rule_of(read_by(form, least_classes(form)), case, event)
            self.assertIs(keeps_together(case, read), True)
            self.assertEqual(unlike_worlds(case, read, order), ())
            last = end(case, read, order)
            for world in case.worlds:
                self.assertIsNotNone(paper(last, read, order, world))

    def test_words_said_in_one_world_at_the_end_are_of_one_class(self):
        draw = drawer(56)
        unlike = 0
        for _ in range(200):
            case, form = draw_case(draw, most_people=4), draw_form(draw, draw.randrange(3))
            event = draw_event(draw, case)
            if break_of(form) and draw.random() < 0.5:
                case, event = case_of(break_of(form))
            rule, order = rule_of(form, case, event), draw_order(draw, case)
            told, classes = words_of(form), least_classes(form)
            last = end(case, rule, order)
            for world in case.worlds:
                numbers = [word_in(last, rule, name, world) for name in order]
                found = {at for number in numbers for at, some in enumerate(classes) if told[number] in some}
                self.assertEqual(len(found), 1)
                unlike += len(set(numbers)) > 1
        self.assertGreater(unlike, 20)

    def test_forms_that_nothing_parts_have_one_rule_in_each_case(self):
        draw = drawer(57)
        found = set()
        for _ in range(150):
            one, other = draw_form(draw, draw.randrange(3)), draw_form(draw, draw.randrange(3))
            if draw.random() < 0.5:
                other = ("read", one, tuple((word, word) for word in words_of(one) if not isinstance(word, tuple)))
            case = draw_case(draw)
            event = draw_event(draw, case)
            same = first_apart(one, other) is None
            if same:
                self.assertEqual(rule_of(one, case, event), rule_of(other, case, event))
                self.assertEqual(least_classes(one), least_classes(other))
            found.add(same)
        self.assertEqual(found, {True, False})


if __name__ == "__main__":
    unittest.main()
