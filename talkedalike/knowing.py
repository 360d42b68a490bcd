"""What people know in a world, what is open among all of them, and the chains that show it."""

from talkedalike.cases import need_event, need_person, need_world


def cell_of(case, person, world):
    """The person's cell in which the world is."""
    need_person(case, person)
    need_world(case, world)
    return _cell_by_world(case, person)[world]


def knows(case, person, event):
    """The event of the worlds in which the person knows the event."""
    need_person(case, person)
    need_event(case, event)
    known = []
    for cell in case.cells(person):
        if _is_within(cell, event):
            known.extend(cell)
    return tuple(sorted(known))


def all_know(case, event):
    """The event of the worlds in which all people know the event."""
    need_event(case, event)
    known = event
    for person in case.names:
        known = _in_both(known, knows(case, person, event))
    return known


def open_cells(case):
    """The list of the open cells, ascending."""
    found = []
    placed = {}
    for world in case.worlds:
        if world not in placed:
            cell = open_cell(case, world)
            found.append(cell)
            for inside in cell:
                placed[inside] = True
    return sorted(found)


def open_cell(case, world):
    """The open cell of a world."""
    need_world(case, world)
    return tuple(sorted(_steps_from(case, world)))


def is_open(case, world, event):
    """Whether the event is open in the world."""
    need_world(case, world)
    need_event(case, event)
    return _is_within(open_cell(case, world), event)


def chain(case, world, other):
    """Any shortest chain from the world to the other one, None if there is none."""
    need_world(case, world)
    need_world(case, other)
    steps = _steps_from(case, world)
    if other not in steps:
        return None
    links = []
    at = other
    while at != world:
        person, ahead = steps[at]
        links.append((person, at))
        at = ahead
    links.reverse()
    return links


def is_chain(case, world, other, value):
    """Whether any value is a chain from the world to the other one."""
    need_world(case, world)
    need_world(case, other)
    if not isinstance(value, list):
        return False
    at = world
    for link in value:
        if not _is_link(case, at, link):
            return False
        at = link[1]
    return at == other


def _is_link(case, at, value):
    if not isinstance(value, tuple) or len(value) != 2:
        return False
    return case.has_person(value[0]) and value[1] in cell_of(case, value[0], at)


def _steps_from(case, world):
    """For each world that a chain leads to: the last step's person and the world ahead of it."""
    people = [(name, _cell_by_world(case, name)) for name in case.names]
    steps = {world: None}
    reached = [world]
    # In rounds, each one step further than the one ahead of it, so that no chain is longer than need be.
    while reached:
        further = []
        for at in reached:
            for name, cells in people:
                for there in cells[at]:
                    if there not in steps:
                        steps[there] = (name, at)
                        further.append(there)
        reached = further
    return steps


def _cell_by_world(case, person):
    return {world: cell for cell in case.cells(person) for world in cell}


def _is_within(some, event):
    inside = set(event)
    return all([world in inside for world in some])


def _in_both(one, other):
    inside = set(other)
    return tuple([world for world in one if world in inside])
