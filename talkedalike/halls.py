"""Halls: where people come and leave, say, whisper and look, and take it back."""

from talkedalike.cases import Case, are_cells, is_name, need_event, need_person, need_world
from talkedalike.errors import BadCells, BadName, LastOne, NamedTwice, NoPerson, Nothing
from talkedalike.rules import need_rule
from talkedalike.talks import case_with
from talkedalike.voices import Masks, Voice, parted, turned


class Hall:
    """A case and what happens to it, one event after the other."""

    def __init__(self, case):
        # No case is ever changed, so that those ahead of the events can be kept to take these back.
        self._cases = [case]
        self._history = []
        self._told = []

    @property
    def case(self):
        """The case as it stands."""
        return self._cases[-1]

    @property
    def history(self):
        """The list of the events."""
        return list(self._history)

    def say(self, person, rule):
        """The person says the word of their cell to all."""
        need_person(self.case, person)
        need_rule(self.case, rule)
        masks = Masks(self.case)
        voice = Voice(self.case, masks, rule)
        cells = masks.cells_of(self.case)
        behind = turned(cells, person, voice.groups(cells[person]))
        self._add(("say", person, rule), case_with(self.case, masks, behind), _words(masks, voice, cells[person]))

    def whisper(self, person, hearer, rule):
        """The person says the word of their cell to the hearer alone."""
        need_person(self.case, person)
        if not self.case.has_person(hearer) or hearer == person:
            raise NoPerson(hearer)
        need_rule(self.case, rule)
        masks = Masks(self.case)
        voice = Voice(self.case, masks, rule)
        cells = masks.cells_of(self.case)
        words = _words(masks, voice, cells[person])
        cells[hearer] = parted(cells[hearer], voice.groups(cells[person]))
        self._add(("whisper", person, hearer, rule), case_with(self.case, masks, cells), words)

    def look(self, person, event):
        """The person sees whether the event is so."""
        need_person(self.case, person)
        need_event(self.case, event)
        masks = Masks(self.case)
        cells = masks.cells_of(self.case)
        inside = masks.mask_of(event)
        cells[person] = parted(cells[person], [inside, masks.mask_of(self.case.worlds) ^ inside])
        words = {world: "yes" if world in event else "no" for world in self.case.worlds}
        self._add(("look", person, event), case_with(self.case, masks, cells), words)

    def come(self, person, cells):
        """A new person comes."""
        if not is_name(person):
            raise BadName(person)
        if self.case.has_person(person):
            raise NamedTwice(person)
        if not are_cells(cells, {world: True for world in self.case.worlds}):
            raise BadCells(cells)
        people = _people(self.case, self.case.names) + [(person, cells)]
        self._add(("come", person, cells), Case(self.case.worlds, self.case.weights, people), {})

    def leave(self, person):
        """A person leaves."""
        need_person(self.case, person)
        left = [name for name in self.case.names if name != person]
        if not left:
            raise LastOne()
        self._add(("leave", person), Case(self.case.worlds, self.case.weights, _people(self.case, left)), {})

    def undo(self):
        """Take the last event back and return it."""
        if not self._history:
            raise Nothing()
        self._cases.pop()
        self._told.pop()
        return self._history.pop()

    def fork(self):
        """A new hall that stands as this one does."""
        hall = Hall(self.case)
        hall._cases = list(self._cases)
        hall._history = list(self._history)
        hall._told = list(self._told)
        return hall

    def heard(self, world):
        """The list of what is said, whispered and seen in a world."""
        need_world(self.case, world)
        return [words[world] for words in self._told if words]

    def possible(self, world):
        """The event of the worlds in which the same is heard."""
        due = self.heard(world)
        return tuple([other for other in sorted(self.case.worlds) if self.heard(other) == due])

    def _add(self, event, case, words):
        """Add an event: the case behind it, and a dict from all worlds to what is heard, {} for nothing."""
        self._history.append(event)
        self._cases.append(case)
        self._told.append(words)


def replayed(case, events):
    """The hall behind a list of events."""
    hall = Hall(case)
    for event in events:
        _do(hall, event)
    return hall


def _do(hall, event):
    if event[0] == "say":
        hall.say(event[1], event[2])
    elif event[0] == "whisper":
        hall.whisper(event[1], event[2], event[3])
    elif event[0] == "look":
        hall.look(event[1], event[2])
    elif event[0] == "come":
        hall.come(event[1], event[2])
    else:
        hall.leave(event[1])


def _words(masks, voice, cells):
    """A dict from all worlds to the word of whoever has these cells."""
    return {world: voice.word(cell) for cell in cells for world in masks.set_of(cell)}


def _people(case, names):
    return [(name, tuple(case.cells(name))) for name in names]
