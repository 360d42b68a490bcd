"""Texts of cases: a line for the worlds, one for the weights, and one for each person."""

from talkedalike.cases import Case, are_cells, is_name
from talkedalike.errors import BadLine


def format_case(case):
    """The text of a case."""
    lines = ["worlds " + " ".join(case.worlds), "weights " + " ".join([str(weight) for weight in case.weights])]
    for name in case.names:
        lines.append(name + " " + " | ".join([" ".join(cell) for cell in case.cells(name)]))
    return "\n".join(lines)


def read_case(text):
    """The case with this text."""
    if not isinstance(text, str):
        raise BadLine(1)
    lines = [line.split(" ") for line in text.split("\n")]
    if not _are_worlds(lines[0]):
        raise BadLine(1)
    worlds = lines[0][1:]
    if len(lines) < 2 or not _are_weights(lines[1], len(worlds)):
        raise BadLine(2)
    if len(lines) < 3:
        raise BadLine(3)
    placed = {world: True for world in worlds}
    cells_of = {}
    for number, words in enumerate(lines[2:]):
        cells = _cells(words[1:])
        if not is_name(words[0]) or words[0] in cells_of or not are_cells(cells, placed):
            raise BadLine(number + 3)
        cells_of[words[0]] = cells
    return Case(worlds, [int(word) for word in lines[1][1:]], [(name, cells_of[name]) for name in cells_of])


def _are_worlds(words):
    worlds = words[1:]
    if words[0] != "worlds" or not worlds or not all([is_name(world) for world in worlds]):
        return False
    return len(set(worlds)) == len(worlds)


def _are_weights(words, many):
    return words[0] == "weights" and len(words) == many + 1 and all([_is_weight(word) for word in words[1:]])


def _is_weight(word):
    return word.isascii() and word.isdigit() and not word.startswith("0")


def _cells(words):
    """The words as cells, which may be none."""
    cells = [[]]
    for word in words:
        if word == "|":
            cells.append([])
        else:
            cells[-1].append(word)
    return tuple([tuple(cell) for cell in cells])
