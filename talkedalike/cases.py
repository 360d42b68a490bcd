"""Names, cases, sets and events: which worlds there are, and who sees which of them apart."""

from talkedalike.errors import BadCells, BadEvent, BadPeople, BadPerson, BadWeights
from talkedalike.errors import BadWorlds, NamedTwice, NoPerson, NoSet, NoWorld

LONGEST_NAME = 8


def is_name(value):
    """Whether any value is a name."""
    if not isinstance(value, str) or not 1 <= len(value) <= LONGEST_NAME:
        return False
    return value.isascii() and value.isalpha() and value.islower()


def is_integer(value):
    """Whether any value is an integer, which a bool is not."""
    return isinstance(value, int) and not isinstance(value, bool)


class Case:
    """Worlds with their weights, and people with their cells. No method changes a case."""

    def __init__(self, worlds, weights, people):
        if not _are_worlds(worlds):
            raise BadWorlds(worlds)
        if not _are_weights(weights, len(worlds)):
            raise BadWeights(weights)
        weight_of = dict(zip(worlds, weights))
        _check_people(people, weight_of)
        self._worlds = tuple(worlds)
        self._weights = tuple(weights)
        self._weight_of = weight_of
        self._names = tuple([person[0] for person in people])
        self._cells_of = {person[0]: _ascending(person[1]) for person in people}

    @property
    def worlds(self):
        """The list of the worlds, as they were handed in."""
        return list(self._worlds)

    @property
    def weights(self):
        """The list of the weights, as they were handed in."""
        return list(self._weights)

    @property
    def names(self):
        """The list of the people's names, as they were handed in."""
        return list(self._names)

    def cells(self, person):
        """The list of the person's cells as sets, ascending."""
        need_person(self, person)
        return list(self._cells_of[person])

    def weight(self, some):
        """The weight of a set."""
        need_set(self, some)
        return sum([self._weight_of[world] for world in some])

    def with_cells(self, person, cells):
        """A new case that has other cells for the person."""
        need_person(self, person)
        if not are_cells(cells, self._weight_of):
            raise BadCells(cells)
        cells_of = dict(self._cells_of)
        cells_of[person] = _ascending(cells)
        return self.with_all_cells(cells_of)

    def with_all_cells(self, cells_of):
        """A new case that has other cells for all people: a new dict from their names to tuples as _ascending tells."""
        made = Case(("a",), (1,), (("a", (("a",),)),))
        # All of it is known to be good: to look at it once more takes longer than a turn of a talk.
        made._worlds = self._worlds
        made._weights = self._weights
        made._weight_of = self._weight_of
        made._names = self._names
        made._cells_of = cells_of
        return made

    def has_person(self, value):
        """Whether any value is a name of a person of the case."""
        return isinstance(value, str) and value in self._cells_of

    def has_world(self, value):
        """Whether any value is a world of the case."""
        return isinstance(value, str) and value in self._weight_of

    def __eq__(self, other):
        return (isinstance(other, Case) and self._worlds == other._worlds and self._weights == other._weights
                and self._names == other._names and self._cells_of == other._cells_of)


def is_set(case, value):
    """Whether any value is a set of the case's worlds."""
    return is_event(case, value) and len(value) > 0


def is_event(case, value):
    """Whether any value is an event of the case's worlds."""
    if not isinstance(value, tuple):
        return False
    if not all([case.has_world(world) for world in value]):
        return False
    return all([value[at - 1] < value[at] for at in range(1, len(value))])


def sets_of(worlds):
    """The list of all sets of the worlds, ascending."""
    found = []
    for world in sorted(worlds, reverse=True):
        # The sets with this world are less than those of later worlds only.
        found = [(world,)] + [(world,) + some for some in found] + found
    return found


def are_cells(value, worlds):
    """Whether any value is cells of the worlds, which are a list, or a dict to be quick."""
    if not isinstance(value, tuple):
        return False
    seen = set()
    for cell in value:
        if not isinstance(cell, tuple) or not cell:
            return False
        for world in cell:
            # What is no string may have no hash, so that a dict refuses to look for it.
            if not isinstance(world, str) or world not in worlds or world in seen:
                return False
            seen.add(world)
    return len(seen) == len(worlds)


def need_person(case, person):
    """Refuse what is no name of a person of the case."""
    if not case.has_person(person):
        raise NoPerson(person)


def need_world(case, world):
    """Refuse what is no world of the case."""
    if not case.has_world(world):
        raise NoWorld(world)


def need_set(case, some):
    """Refuse what is no set of the case's worlds."""
    if not is_set(case, some):
        raise NoSet(some)


def need_event(case, event):
    """Refuse what is no event of the case's worlds."""
    if not is_event(case, event):
        raise BadEvent(event)


def _are_worlds(value):
    if not isinstance(value, (list, tuple)) or not value:
        return False
    return all([is_name(thing) for thing in value]) and len(set(value)) == len(value)


def _are_weights(value, many):
    if not isinstance(value, (list, tuple)) or len(value) != many:
        return False
    return all([is_integer(thing) and thing >= 1 for thing in value])


def _check_people(people, worlds):
    if not isinstance(people, (list, tuple)) or not people:
        raise BadPeople(people)
    for number, thing in enumerate(people):
        if not _is_person(thing, worlds):
            raise BadPerson(number)
    # Only now, as a thing that is no person is due ahead of any name that stands twice.
    seen = set()
    for person in people:
        if person[0] in seen:
            raise NamedTwice(person[0])
        seen.add(person[0])


def _is_person(value, worlds):
    if not isinstance(value, tuple) or len(value) != 2:
        return False
    return is_name(value[0]) and are_cells(value[1], worlds)


def _ascending(cells):
    return tuple(sorted([tuple(sorted(cell)) for cell in cells]))
