"""Talks: what a turn teaches, where a talk ends, and what is said in it."""

from talkedalike.cases import Case, is_integer, need_person, need_world
from talkedalike.errors import BadNumber, BadOrder
from talkedalike.rules import are_one_word, need_rule, spoken

MOST_TURNS = 1000


def after(case, rule, person):
    """The case behind a turn in which the person speaks."""
    need_rule(case, rule)
    need_person(case, person)
    return _with_cells(case, _turn(case, rule, _cells_of(case), person))


def teaches(case, rule, person):
    """Whether a turn in which the person speaks teaches."""
    return after(case, rule, person) != case


def talk(case, rule, order):
    """The list of the tuples (speaker, cells) for the turns up to the talk's length."""
    _need_rule_and_order(case, rule, order)
    told = _turns(case, rule, order)
    # Turns share the lists of cells that they do not part: whoever asks gets each one by itself.
    return [(speaker, {name: list(cells[name]) for name in cells}) for speaker, cells in told]


def talk_length(case, rule, order):
    """The number of turns up to the last one that teaches."""
    _need_rule_and_order(case, rule, order)
    return len(_turns(case, rule, order))


def end(case, rule, order):
    """The case with the cells as they are where the talk ends."""
    _need_rule_and_order(case, rule, order)
    told = _turns(case, rule, order)
    return _with_cells(case, told[-1][1] if told else _cells_of(case))


def said(case, rule, order, world, turns):
    """The list of the words that are said in the world in so many turns."""
    _need_rule_and_order(case, rule, order)
    need_world(case, world)
    if not is_integer(turns) or not 0 <= turns <= MOST_TURNS:
        raise BadNumber(turns)
    row = []
    cells = _cells_of(case)
    for speaker, behind in _turns(case, rule, order)[:turns]:
        row.append(_word_there(case, rule, cells[speaker], world))
        cells = behind
    while len(row) < turns:
        # Behind its end the talk goes on, but no cell is parted any more.
        speaker = order[len(row) % len(order)]
        row.append(_word_there(case, rule, cells[speaker], world))
    return row


def need_order(case, order):
    """Refuse what is no order of the case's people."""
    if not isinstance(order, tuple) or not order or not all([case.has_person(name) for name in order]):
        raise BadOrder(order)


def parted(case, rule, cells, heard):
    """The cells, ascending, parted by the words of the cells that are heard."""
    word_at = {world: spoken(case, rule, cell) for cell in heard for world in cell}
    found = []
    for cell in cells:
        found.extend(_groups(cell, word_at))
    return sorted(found)


def _groups(cell, word_at):
    """The cell's worlds, those with one word together."""
    groups = []
    left = cell
    while left:
        word = word_at[left[0]]
        groups.append(tuple([world for world in left if are_one_word(word, word_at[world])]))
        left = [world for world in left if not are_one_word(word, word_at[world])]
    return groups


def _need_rule_and_order(case, rule, order):
    need_rule(case, rule)
    need_order(case, order)


def _turns(case, rule, order):
    """The turns up to the last one that teaches: the speaker of each, and all cells behind it."""
    turns = []
    length = 0
    cells = _cells_of(case)
    # Once nobody in a whole round has taught anything, nobody ever does.
    while len(turns) < length + len(order):
        speaker = order[len(turns) % len(order)]
        behind = _turn(case, rule, cells, speaker)
        turns.append((speaker, behind))
        if behind != cells:
            length = len(turns)
        cells = behind
    return turns[:length]


def _turn(case, rule, cells, speaker):
    """All cells behind a turn of the speaker, where these are the cells ahead of it."""
    heard = cells[speaker]
    return {name: cells[name] if name == speaker else parted(case, rule, cells[name], heard) for name in cells}


def _cells_of(case):
    return {name: case.cells(name) for name in case.names}


def _with_cells(case, cells):
    return Case(case.worlds, case.weights, [(name, tuple(cells[name])) for name in case.names])


def _word_there(case, rule, cells, world):
    return [spoken(case, rule, cell) for cell in cells if world in cell][0]
