"""Forms: rules without a case, which have a word for each share that an event can have of a set."""

from math import gcd

from talkedalike.cases import is_integer, is_name
from talkedalike.errors import TalkError

NOTHING = (0, 1)
ALL = (1, 1)


class BadForm(TalkError):
    """For what is no form."""

    def __init__(self, value):
        self.value = value


class BadShare(TalkError):
    """For what is no share."""

    def __init__(self, value):
        self.value = value


class BadBreak(TalkError):
    """For what is no tuple of three ascending shares."""

    def __init__(self, value):
        self.value = value


class BadClasses(TalkError):
    """For what is no classes of the form."""

    def __init__(self, value):
        self.value = value


def is_share(value):
    """Whether any value is a share."""
    if not isinstance(value, tuple) or len(value) != 2 or not all([is_integer(thing) for thing in value]):
        return False
    return 0 <= value[0] <= value[1] and gcd(value[0], value[1]) == 1


def is_form(value):
    """Whether any value is a form."""
    if not isinstance(value, tuple) or len(value) != 3:
        return False
    if value[0] == "cut":
        return _is_plain(value[1]) and isinstance(value[2], tuple) and _are_cuts(value[2])
    if value[0] == "read":
        return is_form(value[1]) and isinstance(value[2], tuple) and _are_readings(value[2])
    return value[0] == "pair" and is_form(value[1]) and is_form(value[2])


def word_for(form, share):
    """The word that the form has for a share."""
    need_form(form)
    need_share(share)
    return word_at(form, share)


def starts(form):
    """The list of the tuples (side, share, word) at which the form's word changes, ascending."""
    need_form(form)
    return marks_of(form)


def words_of(form):
    """The list of the words of the form, in the order in which they start."""
    need_form(form)
    return words_in(marks_of(form))


def first_apart(first, second):
    """The simplest share for which two forms have unlike words, None if there is none."""
    need_form(first)
    need_form(second)
    both = _side_by_side(marks_of(first), marks_of(second))
    apart = [simplest_behind(both, at) for at in range(len(both)) if both[at][2][0] != both[at][2][1]]
    ranked = sorted([(share[1], share[0]) for share in apart])
    return (ranked[0][1], ranked[0][0]) if ranked else None


def need_form(form):
    """Refuse what is no form."""
    if not is_form(form):
        raise BadForm(form)


def need_share(share):
    """Refuse what is no share."""
    if not is_share(share):
        raise BadShare(share)


def is_less(one, other):
    """Whether the one share is less than the other, as fractions."""
    return one[0] * other[1] < other[0] * one[1]


def are_three_ascending(value):
    """Whether any value is a tuple of three shares of which each is less than the next one."""
    if not isinstance(value, tuple) or len(value) != 3 or not all([is_share(share) for share in value]):
        return False
    return is_less(value[0], value[1]) and is_less(value[1], value[2])


def word_at(form, share):
    """The word that what surely is a form has for what surely is a share."""
    if form[0] == "pair":
        return (word_at(form[1], share), word_at(form[2], share))
    if form[0] == "read":
        return _read(form[2], word_at(form[1], share))
    word = form[1]
    for side, start, behind in form[2]:
        if is_less(start, share) or (side == "at" and start == share):
            word = behind
    return word


def marks_of(form):
    """The starts of what surely is a form."""
    if form[0] == "pair":
        marks = _side_by_side(marks_of(form[1]), marks_of(form[2]))
    elif form[0] == "read":
        marks = [(side, share, _read(form[2], word)) for side, share, word in marks_of(form[1])]
    else:
        marks = [("at", NOTHING, form[1])] + list(form[2])
    found = [marks[0]]
    for mark in marks[1:]:
        if mark[2] != found[-1][2]:
            found.append(mark)
    return found


def words_in(marks):
    """The list of the words of starts, each once, in their order."""
    found = []
    for _, _, word in marks:
        if word not in found:
            found.append(word)
    return found


def simplest_behind(marks, at):
    """The simplest share from a mark on and ahead of the next one; marks are as starts, whatever their words."""
    side, low, _ = marks[at]
    if at + 1 == len(marks):
        return _simplest(low, side == "at", ALL, True)
    until, high, _ = marks[at + 1]
    return _simplest(low, side == "at", high, until == "above")


def _is_plain(value):
    return is_integer(value) or is_name(value)


def _is_word(value):
    if isinstance(value, tuple):
        return len(value) == 2 and _is_word(value[0]) and _is_word(value[1])
    return _is_plain(value)


def _are_cuts(rows):
    if not all([_is_cut(row) for row in rows]):
        return False
    return all([_is_ahead(rows[at - 1], rows[at]) for at in range(1, len(rows))])


def _is_cut(value):
    if not isinstance(value, tuple) or len(value) != 3 or not is_share(value[1]) or not _is_plain(value[2]):
        return False
    # Ahead of nothing there is no first word, and above all there is no share.
    return (value[0] == "at" and value[1] != NOTHING) or (value[0] == "above" and value[1] != ALL)


def _is_ahead(mark, later):
    """Whether a mark is ahead of another one: by their shares, and "at" ahead of "above"."""
    if mark[1] == later[1]:
        return mark[0] == "at" and later[0] == "above"
    return is_less(mark[1], later[1])


def _are_readings(rows):
    for row in rows:
        if not isinstance(row, tuple) or len(row) != 2 or not _is_word(row[0]) or not _is_plain(row[1]):
            return False
    firsts = [row[0] for row in rows]
    return all([firsts[at] not in firsts[:at] for at in range(1, len(firsts))])


def _read(rows, word):
    for first, second in rows:
        if first == word:
            return second
    return word


def _side_by_side(one, other):
    """All marks of two lists of starts, ascending, each with the tuple of the words of both."""
    marks = [("at", NOTHING, (one[0][2], other[0][2]))]
    at = 1
    there = 1
    while at < len(one) or there < len(other):
        steps = at < len(one) and (there == len(other) or not _is_ahead(other[there], one[at]))
        follows = there < len(other) and (at == len(one) or not _is_ahead(one[at], other[there]))
        side, share, _ = one[at] if steps else other[there]
        at += 1 if steps else 0
        there += 1 if follows else 0
        marks.append((side, share, (one[at - 1][2], other[there - 1][2])))
    return marks


def _simplest(low, low_is_in, high, high_is_in):
    """The simplest share from the low one to the high one, of which each may be in or not."""
    wholes = []
    found = _least_whole(low, low_is_in, high)
    while found is None:
        # All shares there lie between two neighbouring integers: go on with one over what is above the lower one.
        whole = low[0] // low[1]
        wholes.append(whole)
        low, high = (high[1], high[0] - whole * high[1]), (low[1], low[0] - whole * low[1])
        low_is_in, high_is_in = high_is_in, low_is_in
        found = _least_whole(low, low_is_in, high)
    top, bottom = found, 1
    for whole in reversed(wholes):
        top, bottom = whole * top + bottom, top
    return (top, bottom)


def _least_whole(low, low_is_in, high):
    """The least integer from the low fraction on and below the high one, which may be over 0; None if there is none."""
    whole = low[0] // low[1]
    if low_is_in and whole * low[1] == low[0]:
        return whole
    return whole + 1 if (whole + 1) * high[1] < high[0] else None
