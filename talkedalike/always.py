"""Which forms keep together in all cases, the breaks of the others, and a case for each break."""

from math import gcd

from talkedalike.cases import Case, need_event
from talkedalike.forms import BadBreak, are_three_ascending, need_form, simplest_behind, starts, word_at, words_of
from talkedalike.rules import words


def keeps_always(form):
    """Whether the rule of the form keeps together for all cases and events."""
    return break_of(form) is None


def break_of(form):
    """Any break of the form, None if there is none."""
    marks = starts(form)
    told = [word for _, _, word in marks]
    for at, word in enumerate(told):
        first = told.index(word)
        if first < at:
            # Right ahead of a word there is another one.
            return tuple([simplest_behind(marks, place) for place in (first, at - 1, at)])
    return None


def is_break(form, value):
    """Whether any value is a break of the form."""
    need_form(form)
    if not are_three_ascending(value):
        return False
    word = word_at(form, value[0])
    return word == word_at(form, value[2]) and word != word_at(form, value[1])


def case_of(parts):
    """Any case of a break: a tuple (case, event)."""
    if not are_three_ascending(parts):
        raise BadBreak(parts)
    one, mid, other = parts
    # The nearer the share of a set is to that of all, the more the set weighs.
    weights = _weights(one, _times(mid, other)) + _weights(other, _times(one, mid))
    common = gcd(gcd(weights[0], weights[1]), gcd(weights[2], weights[3]))
    weight_of = {world: weight // common for world, weight in zip("abcd", weights) if weight}
    cells = [tuple([world for world in some if world in weight_of]) for some in ("ab", "cd")]
    people = [("one", tuple(cells)), ("other", (tuple(weight_of),))]
    case = Case(list(weight_of), list(weight_of.values()), people)
    return (case, tuple([world for world in ("a", "c") if world in weight_of]))


def rule_of(form, case, event):
    """The rule of the form for a case and an event."""
    need_form(form)
    need_event(case, event)
    told = words_of(form)
    shares = words(case, ("chance", event))
    return ("table", tuple([(some, told.index(word_at(form, share))) for some, share in shares]))


def _times(low, high):
    """What is between two shares, times the product of their bottoms."""
    return high[0] * low[1] - low[0] * high[1]


def _weights(share, times):
    """The weights of the worlds of a set inside and outside of the event."""
    return [share[0] * times, (share[1] - share[0]) * times]
