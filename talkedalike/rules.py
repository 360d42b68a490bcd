"""Rules of saying: what is one, and which word it has for a set of worlds."""

from talkedalike.cases import is_event, is_integer, is_name, need_set, sets_of
from talkedalike.errors import BadRule
from talkedalike.knowing import cell_of
from talkedalike.voices import Masks, Voice


def is_rule(case, value):
    """Whether any value is a rule for the case."""
    if not isinstance(value, tuple) or not value:
        return False
    # What is no string may have no hash, so that a dict refuses to look for it.
    if not isinstance(value[0], str):
        return False
    if value[0] == "both":
        return len(value) == 3 and is_rule(case, value[1]) and is_rule(case, value[2])
    if value[0] not in CHECKS:
        return False
    check = CHECKS[value[0]]
    return check(case, value)


def word_of(case, rule, some):
    """The rule's word for a set."""
    need_rule(case, rule)
    need_set(case, some)
    return _spoken(case, rule, some)


def words(case, rule):
    """The list of the tuples (set, word) for all sets, ascending."""
    need_rule(case, rule)
    masks = Masks(case)
    voice = Voice(case, masks, rule)
    return [(masks.set_of(mask), voice.word(mask)) for mask in masks.all_sets()]


def word_in(case, rule, person, world):
    """The person's word in a world."""
    need_rule(case, rule)
    return _spoken(case, rule, cell_of(case, person, world))


def need_rule(case, rule):
    """Refuse what is no rule for the case."""
    if not is_rule(case, rule):
        raise BadRule(rule)


def are_one_word(word, value):
    """Whether any value is one with the word."""
    if isinstance(word, tuple):
        if not isinstance(value, tuple) or len(value) != len(word):
            return False
        return all([are_one_word(part, other) for part, other in zip(word, value)])
    # Python holds True for equal to 1.
    return isinstance(word, bool) == isinstance(value, bool) and word == value


def _is_chance(case, value):
    return len(value) == 2 and is_event(case, value[1])


def _is_atleast(case, value):
    return len(value) == 4 and is_event(case, value[1]) and _is_from(0, value[2]) and _is_from(1, value[3])


def _is_floor(case, value):
    return len(value) == 3 and is_event(case, value[1]) and _is_from(1, value[2])


def _is_from(least, value):
    return is_integer(value) and value >= least


def _is_best(case, value):
    if len(value) != 2 or not isinstance(value[1], tuple) or not value[1]:
        return False
    many = len(case.worlds)
    if not all([_is_deed(many, deed) for deed in value[1]]):
        return False
    return len(set([deed[0] for deed in value[1]])) == len(value[1])


def _is_deed(many, value):
    if not isinstance(value, tuple) or len(value) != 2 or not is_name(value[0]):
        return False
    if not isinstance(value[1], tuple) or len(value[1]) != many:
        return False
    return all([is_integer(pay) for pay in value[1]])


def _is_size(case, value):
    return len(value) == 1


def _is_table(case, value):
    if len(value) != 2 or not isinstance(value[1], tuple):
        return False
    # The rows are counted first: to list the sets of many worlds would take long.
    if len(value[1]) != (1 << len(case.worlds)) - 1:
        return False
    return all([_is_row(some, row) for some, row in zip(sets_of(case.worlds), value[1])])


def _is_row(some, value):
    if not isinstance(value, tuple) or len(value) != 2 or value[0] != some:
        return False
    return is_integer(value[1]) or is_name(value[1])


def _spoken(case, rule, some):
    masks = Masks(case)
    return Voice(case, masks, rule).word(masks.mask_of(some))


CHECKS = {
    "chance": _is_chance, "atleast": _is_atleast, "floor": _is_floor, "sure": _is_chance, "best": _is_best,
    "size": _is_size, "table": _is_table,
}
