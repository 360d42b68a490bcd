"""Whispers: what is told to one hearer alone, from whom to whom it leads, and who is deaf to all others."""

from talkedalike.cases import Case, need_person
from talkedalike.errors import BadWeb
from talkedalike.rules import need_rule
from talkedalike.talks import case_with
from talkedalike.voices import Masks, Voice, parted


def whispered(case, rule, web):
    """The case with the cells as they are where the whispering ends."""
    need_rule(case, rule)
    need_web(case, web)
    masks = Masks(case)
    cells = masks.cells_of(case)
    _whisper(Voice(case, masks, rule), cells, web)
    return case_with(case, masks, cells)


def whispers(case, rule, web):
    """The number of whispers up to the last one that teaches."""
    need_rule(case, rule)
    need_web(case, web)
    masks = Masks(case)
    return _whisper(Voice(case, masks, rule), masks.cells_of(case), web)


def leads(case, web, person, other):
    """Whether the web leads from the person to the other one."""
    _need_web_and_both(case, web, person, other)
    return other in _steps_from(web, person)


def route(case, web, person, other):
    """Any list of as few whispers as can be by which the web leads from the person to the other one, or None."""
    _need_web_and_both(case, web, person, other)
    steps = _steps_from(web, person)
    if other not in steps:
        return None
    way = []
    at = other
    while at != person:
        way.append((steps[at], at))
        at = steps[at]
    way.reverse()
    return way


def deaf(case, web):
    """The least deaf set by length, then ascending, None if there is none."""
    need_web(case, web)
    back = [(hearer, speaker) for speaker, hearer in web]
    # A deaf set has all in it from whom the web leads to one of it; those by themselves are deaf, unless they are all.
    found = [tuple(sorted(_steps_from(back, name))) for name in case.names]
    ranked = sorted([(len(some), some) for some in found if len(some) < len(case.names)])
    return ranked[0][1] if ranked else None


def is_deaf(case, web, value):
    """Whether any value is a deaf set."""
    need_web(case, web)
    if not isinstance(value, tuple) or not 0 < len(value) < len(case.names):
        return False
    if not all([case.has_person(name) for name in value]):
        return False
    if not all([value[at - 1] < value[at] for at in range(1, len(value))]):
        return False
    return all([speaker in value or hearer not in value for speaker, hearer in web])


def deaf_case(case, web):
    """The case that shows that those of the least deaf set are deaf, None if there is no deaf set."""
    some = deaf(case, web)
    if some is None:
        return None
    one, two = (("here", "there"),), (("here",), ("there",))
    return Case(("here", "there"), (1, 1), [(name, one if name in some else two) for name in case.names])


def need_web(case, web):
    """Refuse what is no web of the case's people."""
    if not isinstance(web, list) or not web or not all([_is_whisper(case, thing) for thing in web]):
        raise BadWeb(web)


def _is_whisper(case, value):
    if not isinstance(value, tuple) or len(value) != 2:
        return False
    return case.has_person(value[0]) and case.has_person(value[1]) and value[0] != value[1]


def _need_web_and_both(case, web, person, other):
    need_web(case, web)
    need_person(case, person)
    need_person(case, other)


def _whisper(voice, cells, web):
    """Part the cells up to the end of the whispering; how many whispers are done up to it."""
    done = 0
    length = 0
    told = {}
    # Once no whisper in a whole round has taught anything, none ever does.
    while done < length + len(web):
        speaker, hearer = web[done % len(web)]
        done += 1
        # Whoever has the same cells as at the last whisper to this hearer says the same once more.
        if told.get((speaker, hearer), 0) < len(cells[speaker]):
            told[(speaker, hearer)] = len(cells[speaker])
            behind = parted(cells[hearer], voice.groups(cells[speaker]))
            if len(behind) > len(cells[hearer]):
                cells[hearer] = behind
                length = done
    return length


def _steps_from(web, person):
    """For each one to whom the web leads from the person: who whispers to them on a shortest way."""
    steps = {person: None}
    reached = [person]
    while reached:
        further = []
        for at in reached:
            for speaker, hearer in web:
                if speaker == at and hearer not in steps:
                    steps[hearer] = speaker
                    further.append(hearer)
        reached = further
    return steps
