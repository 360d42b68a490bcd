"""Told back: which worlds fit what was heard in a talk, and which ones a talk tells apart."""

from talkedalike.errors import BadNumber
from talkedalike.rules import are_one_word, need_rule
from talkedalike.talks import MOST_TURNS, Course, course_of, need_order, need_turns
from talkedalike.voices import parted


def fits(case, rule, order, heard):
    """The event of the worlds in which just the things that are heard are said."""
    need_rule(case, rule)
    need_order(case, order)
    if not isinstance(heard, list) or len(heard) > MOST_TURNS:
        raise BadNumber(heard)
    course = Course(case, rule, order)
    fitting = tuple([world for world in sorted(case.worlds) if course.row(world, len(heard)) == heard])
    # What is equal may still have True in place of 1; but then it has so for all rows, as those are of one kind.
    return fitting if fitting and _are_one_row(course.row(fitting[0], len(heard)), heard) else ()


def rows(case, rule, order, turns):
    """The list of all unlike rows of so many turns, in the order of the first world in which each is said."""
    need_rule(case, rule)
    need_order(case, order)
    need_turns(turns)
    course = Course(case, rule, order)
    found = []
    for world in case.worlds:
        row = course.row(world, turns)
        # Rows are of one kind, so that none has True where another one has 1.
        if row not in found:
            found.append(row)
    return found


def told_cells(case, rule, order):
    """The ascending list of the sets of worlds that are not told apart."""
    course = course_of(case, rule, order)
    return course.masks.sets_of(_told_masks(case, course))


def are_told_apart(case, rule, order, value):
    """Whether any value is a tuple of two worlds that are told apart."""
    course = course_of(case, rule, order)
    if not isinstance(value, tuple) or len(value) != 2 or not all([case.has_world(world) for world in value]):
        return False
    both = course.masks.mask_of(value)
    return all([mask & both != both for mask in _told_masks(case, course)])


def _are_one_row(row, heard):
    return all([are_one_word(word, thing) for word, thing in zip(row, heard)])


def _told_masks(case, course):
    masks = [course.masks.mask_of(case.worlds)]
    for groups in course.told():
        masks = parted(masks, groups)
    return masks
