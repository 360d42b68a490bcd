"""Endings: whether nobody can be told anything any more, whether all say the same, and papers of it."""

from talkedalike.cases import Case, is_set, need_world
from talkedalike.errors import NotSettled
from talkedalike.knowing import open_cell
from talkedalike.rules import are_one_word, need_rule, spoken, word_in
from talkedalike.talks import end, need_order, talk_length


def is_settled(case, rule, order):
    """Whether no turn of the order would teach."""
    return talk_length(case, rule, order) == 0


def are_alike(case, rule, order, world):
    """Whether all who are named by the order have the same word in the world of the case."""
    need_rule(case, rule)
    need_order(case, order)
    need_world(case, world)
    return _have_all(case, rule, order, world)


def unlike_worlds(case, rule, order):
    """The event of the worlds in which people are not alike at the end of the talk."""
    last = end(case, rule, order)
    return tuple([world for world in sorted(case.worlds) if not _have_all(last, rule, order, world)])


def paper(case, rule, order, world):
    """Any paper that people are alike in the world of a settled case, None if there is none."""
    _need_settled(case, rule, order, world)
    # Each set that is made of whole cells and has the world has this one in it: if any will do, it does.
    some = open_cell(_with_only(case, order), world)
    word = word_in(case, rule, order[0], world)
    return (word, some) if _shows(case, rule, order, word, some) else None


def is_paper(case, rule, order, world, value):
    """Whether any value is a paper that people are alike in the world of a settled case."""
    _need_settled(case, rule, order, world)
    if not isinstance(value, tuple) or len(value) != 2 or not is_set(case, value[1]):
        return False
    return world in value[1] and _shows(case, rule, order, value[0], value[1])


def _need_settled(case, rule, order, world):
    need_rule(case, rule)
    need_order(case, order)
    need_world(case, world)
    if not is_settled(case, rule, order):
        raise NotSettled()


def _have_all(case, rule, order, world):
    word = word_in(case, rule, order[0], world)
    return all([are_one_word(word, word_in(case, rule, name, world)) for name in order])


def _with_only(case, order):
    people = [(name, tuple(case.cells(name))) for name in case.names if name in order]
    return Case(case.worlds, case.weights, people)


def _shows(case, rule, order, value, some):
    """Whether the set is made of whole cells of all who are named, and each of these has any value as its word."""
    for name in order:
        for cell in case.cells(name):
            inside = [world for world in cell if world in some]
            if inside and not (len(inside) == len(cell) and are_one_word(spoken(case, rule, cell), value)):
                return False
    return True
