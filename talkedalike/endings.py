"""Endings: whether nobody can be told anything any more, whether all say the same, and papers of it."""

from talkedalike.cases import is_set, need_world
from talkedalike.errors import NotSettled
from talkedalike.rules import are_one_word, need_rule
from talkedalike.talks import course_of, need_order, would_teach
from talkedalike.voices import Masks, Voice


def is_settled(case, rule, order):
    """Whether no turn of the order would teach."""
    need_rule(case, rule)
    need_order(case, order)
    return _standing(case, Masks(case), rule, order).is_settled()


def are_alike(case, rule, order, world):
    """Whether all who are named by the order have the same word in the world of the case."""
    need_rule(case, rule)
    need_order(case, order)
    need_world(case, world)
    masks = Masks(case)
    return _standing(case, masks, rule, order).are_alike(masks.mask_of([world]))


def unlike_worlds(case, rule, order):
    """The event of the worlds in which people are not alike at the end of the talk."""
    course = course_of(case, rule, order)
    standing = Standing(course.voice, course.last(), order)
    return tuple([world for world in sorted(case.worlds) if not standing.are_alike(course.masks.mask_of([world]))])


def paper(case, rule, order, world):
    """Any paper that people are alike in the world of a settled case, None if there is none."""
    masks = Masks(case)
    standing = _settled(case, masks, rule, order, world)
    bit = masks.mask_of([world])
    # Each set that is made of whole cells and has the world has this one in it: if any will do, it does.
    some = standing.made_of_whole_cells(bit)
    word = standing.first_word(bit)
    return (word, masks.set_of(some)) if standing.shows(word, some) else None


def is_paper(case, rule, order, world, value):
    """Whether any value is a paper that people are alike in the world of a settled case."""
    masks = Masks(case)
    standing = _settled(case, masks, rule, order, world)
    if not isinstance(value, tuple) or len(value) != 2 or not is_set(case, value[1]):
        return False
    return world in value[1] and standing.shows(value[0], masks.mask_of(value[1]))


class Standing:
    """How things stand for those whom an order names: their words, and the cells of all as masks."""

    def __init__(self, voice, cells, order):
        self._voice = voice
        self._cells = cells
        self._names = list({name: True for name in order})

    def is_settled(self):
        """Whether no turn of those who are named would teach."""
        return not any([would_teach(self._voice, self._cells, name) for name in self._names])

    def first_word(self, bit):
        """The word of the first one who is named, in the world with this bit."""
        return self._voice.word([cell for cell in self._cells[self._names[0]] if cell & bit][0])

    def are_alike(self, bit):
        """Whether all who are named have the same word in the world with this bit."""
        keys = [self._voice.key(cell) for name in self._names for cell in self._cells[name] if cell & bit]
        return keys.count(keys[0]) == len(keys)

    def made_of_whole_cells(self, bit):
        """The least mask that has this bit and is made of whole cells of all who are named."""
        cells = [cell for name in self._names for cell in self._cells[name]]
        some = 0
        further = bit
        while further != some:
            some = further
            for cell in cells:
                if cell & further:
                    further |= cell
        return some

    def shows(self, value, some):
        """Whether the set is made of whole cells of all who are named, and each of these has any value as its word."""
        inside = [cell for name in self._names for cell in self._cells[name] if cell & some]
        if not all([cell & some == cell for cell in inside]):
            return False
        return all([are_one_word(self._voice.word(cell), value) for cell in inside])


def _standing(case, masks, rule, order):
    return Standing(Voice(case, masks, rule), masks.cells_of(case), order)


def _settled(case, masks, rule, order, world):
    need_rule(case, rule)
    need_order(case, order)
    need_world(case, world)
    standing = _standing(case, masks, rule, order)
    if not standing.is_settled():
        raise NotSettled()
    return standing
