"""Talks: what a turn teaches, where a talk ends, and what is said in it."""

from talkedalike.cases import is_integer, need_person, need_world
from talkedalike.errors import BadNumber, BadOrder
from talkedalike.rules import need_rule
from talkedalike.voices import Masks, Voice, count_cells, parted, turned

MOST_TURNS = 1000


def after(case, rule, person):
    """The case behind a turn in which the person speaks."""
    need_rule(case, rule)
    need_person(case, person)
    masks = Masks(case)
    cells = masks.cells_of(case)
    groups = Voice(case, masks, rule).groups(cells[person])
    return case_with(case, masks, turned(cells, person, groups))


def teaches(case, rule, person):
    """Whether a turn in which the person speaks teaches."""
    need_rule(case, rule)
    need_person(case, person)
    masks = Masks(case)
    return would_teach(Voice(case, masks, rule), masks.cells_of(case), person)


def talk(case, rule, order):
    """The list of the tuples (speaker, cells) for the turns up to the talk's length."""
    course = course_of(case, rule, order)
    told = []
    for number, cells in enumerate(course.behind()):
        told.append((course.speaker(number), {name: course.masks.sets_of(cells[name]) for name in cells}))
    return told


def talk_length(case, rule, order):
    """The number of turns up to the last one that teaches."""
    return course_of(case, rule, order).length()


def end(case, rule, order):
    """The case with the cells as they are where the talk ends."""
    course = course_of(case, rule, order)
    return case_with(case, course.masks, course.last())


def said(case, rule, order, world, turns):
    """The list of the words that are said in the world in so many turns."""
    need_rule(case, rule)
    need_order(case, order)
    need_world(case, world)
    need_turns(turns)
    return Course(case, rule, order).row(world, turns)


class Course:
    """The course of a talk by a rule and an order: the cells of all, as masks, ahead of it and behind each turn."""

    def __init__(self, case, rule, order):
        self.masks = Masks(case)
        self.voice = Voice(case, self.masks, rule)
        self._order = order
        self._states = self._run(self.masks.cells_of(case))

    def _run(self, cells):
        states = [cells]
        length = 0
        spoken = {}
        # Once nobody in a whole round has taught anything, nobody ever does.
        while len(states) <= length + len(self._order):
            speaker = self.speaker(len(states) - 1)
            # Whoever has the same cells as at the last turn says the same once more, which all have heard.
            if spoken.get(speaker, 0) < len(cells[speaker]):
                spoken[speaker] = len(cells[speaker])
                behind = turned(cells, speaker, self.voice.groups(cells[speaker]))
                if count_cells(behind) > count_cells(cells):
                    length = len(states)
                    cells = behind
            states.append(cells)
        return states[:length + 1]

    def speaker(self, number):
        """Who speaks at the turn with this number, from 0."""
        return self._order[number % len(self._order)]

    def length(self):
        """The number of turns up to the last one that teaches."""
        return len(self._states) - 1

    def behind(self):
        """The list of the cells of all behind each turn."""
        return self._states[1:]

    def last(self):
        """The cells of all where the talk ends."""
        return self._states[-1]

    def row(self, world, turns):
        """The list of the words that are said in the world in so many turns."""
        bit = self.masks.mask_of([world])
        told = [self._word(number, bit) for number in range(min(turns, self.length() + len(self._order)))]
        # Behind its end the talk goes on, but no cell is parted any more: all rounds are like the first one there.
        around = told[self.length():]
        while len(told) < turns:
            told.extend(around)
        return told[:turns]

    def told(self):
        """For each turn up to one round behind the length: the masks of the worlds with the same word."""
        return [self.voice.groups(self._heard(number)) for number in range(self.length() + len(self._order))]

    def _word(self, number, bit):
        return self.voice.word([cell for cell in self._heard(number) if cell & bit][0])

    def _heard(self, number):
        """The cells of the speaker at the turn with this number."""
        return self._states[min(number, self.length())][self.speaker(number)]


def course_of(case, rule, order):
    """The course of a talk; refuses what is no rule and what is no order."""
    need_rule(case, rule)
    need_order(case, order)
    return Course(case, rule, order)


def need_order(case, order):
    """Refuse what is no order of the case's people."""
    if not isinstance(order, tuple) or not order or not all([case.has_person(name) for name in order]):
        raise BadOrder(order)


def need_turns(turns):
    """Refuse what is no number of turns."""
    if not is_integer(turns) or not 0 <= turns <= MOST_TURNS:
        raise BadNumber(turns)


def would_teach(voice, cells, speaker):
    """Whether a turn of the speaker would teach, where all have these cells."""
    groups = voice.groups(cells[speaker])
    for name in cells:
        if name != speaker and len(parted(cells[name], groups)) > len(cells[name]):
            return True
    return False


def case_with(case, masks, cells):
    """The case with these cells, which are masks."""
    return case.with_all_cells({name: tuple(masks.sets_of(cells[name])) for name in case.names})
