"""Classes of the words of a form: those within which it keeps together in all cases, and the joins that lead there."""

from talkedalike.forms import BadClasses, are_three_ascending, marks_of, need_form, simplest_behind, word_at, words_in
from talkedalike.rules import are_one_word


def least_classes(form):
    """The least good classes."""
    need_form(form)
    sequence = Sequence(form)
    last = {number: at for at, number in enumerate(sequence.numbers)}
    classes = []
    until = -1
    for at, number in enumerate(sequence.numbers):
        # Behind the last one of all words so far, no three shares ask the words of both sides to be of one class.
        if at > until:
            classes.append([])
        until = max(until, last[number])
        if sequence.words[number] not in classes[-1]:
            classes[-1].append(sequence.words[number])
    return classes


def is_good(form, value):
    """Whether any value is good classes of the form, in any order."""
    need_form(form)
    sequence = Sequence(form)
    return _are_classes(sequence, value) and sequence.next_join(_class_numbers(sequence, value)) is None


def read_by(form, classes):
    """The form read by its classes: each word as the number of its class."""
    need_form(form)
    sequence = Sequence(form)
    if not _are_classes(sequence, classes):
        raise BadClasses(classes)
    return ("read", form, tuple(zip(sequence.words, _class_numbers(sequence, classes))))


def joins(form):
    """Any whole row of joins."""
    need_form(form)
    sequence = Sequence(form)
    numbers = sequence.alone()
    found = []
    join = sequence.next_join(numbers)
    while join is not None:
        found.append(join)
        numbers = sequence.joined(numbers, join)
        join = sequence.next_join(numbers)
    return found


def are_joins(form, value):
    """Whether any value is a row of joins."""
    need_form(form)
    return _numbers_behind(Sequence(form), value) is not None


def is_whole(form, value):
    """Whether any value is a whole row of joins."""
    need_form(form)
    sequence = Sequence(form)
    numbers = _numbers_behind(sequence, value)
    return numbers is not None and sequence.next_join(numbers) is None


class Sequence:
    """The words of what surely is a form, each once, and the numbers of those that start one after the other."""

    def __init__(self, form):
        self._form = form
        self._marks = marks_of(form)
        self.words = words_in(self._marks)
        self.numbers = [self.words.index(word) for _, _, word in self._marks]

    def alone(self):
        """For each word the number of its class, where each word is alone."""
        return list(range(len(self.words)))

    def next_join(self, classes):
        """A join, where the words are in classes with these numbers, None if the classes are good."""
        placed = [classes[number] for number in self.numbers]
        for at, number in enumerate(placed):
            first = placed.index(number)
            if first < at and placed[at - 1] != number:
                return tuple([simplest_behind(self._marks, place) for place in (first, at - 1, at)])
        return None

    def joined(self, classes, join):
        """The numbers of the classes behind three ascending shares, None if they are no join at their turn."""
        one, mid, other = [classes[self.words.index(word_at(self._form, share))] for share in join]
        if one != other or one == mid:
            return None
        return [one if number == mid else number for number in classes]


def _are_classes(sequence, value):
    if not isinstance(value, list) or not all([isinstance(some, list) and some for some in value]):
        return False
    things = [thing for some in value for thing in some]
    return len(things) == len(sequence.words) and all([_stands_in(word, things) for word in sequence.words])


def _stands_in(word, things):
    return any([are_one_word(word, thing) for thing in things])


def _class_numbers(sequence, classes):
    """For each word the number of its class."""
    return [[_stands_in(word, some) for some in classes].index(True) for word in sequence.words]


def _numbers_behind(sequence, value):
    """For each word the number of its class behind a row of joins, None for any value that is none."""
    if not isinstance(value, list):
        return None
    numbers = sequence.alone()
    for join in value:
        if not are_three_ascending(join):
            return None
        numbers = sequence.joined(numbers, join)
        if numbers is None:
            return None
    return numbers
