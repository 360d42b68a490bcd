"""What the document says of rules, talks and splits, done straight by its words, however slow that is."""

from fractions import Fraction
from itertools import combinations
from math import floor


def all_sets(worlds):
    """All sets of the worlds, ascending."""
    return sorted(some for many in range(1, len(worlds) + 1) for some in combinations(sorted(worlds), many))


def word(case, rule, some):
    """[6]: the rule's word for a set."""
    kind, weight = rule[0], dict(zip(case.worlds, case.weights))
    if kind == "both":
        return tuple(word(case, part, some) for part in rule[1:])
    if kind == "size":
        return len(some)
    if kind == "table":
        return dict(rule[1])[some]
    if kind == "best":
        def worth(pays):
            return sum(weight[world] * pay for world, pay in zip(case.worlds, pays) if world in some)
        best = max(worth(pays) for _, pays in rule[1])
        return next(name for name, pays in rule[1] if worth(pays) == best)
    inside = set(some) & set(rule[1])
    if kind == "sure":
        return "yes" if inside == set(some) else "open" if inside else "no"
    chance = Fraction(sum(weight[world] for world in inside), sum(weight[world] for world in some))
    if kind == "chance":
        return (chance.numerator, chance.denominator)
    if kind == "atleast":
        return chance >= Fraction(rule[2], rule[3])
    return floor(chance * rule[2])


def cell(cells, world):
    return next(cell for cell in cells if world in cell)


def turn(case, rule, cells, speaker):
    """[8]: the cells of all, behind a turn; cells is a dict from names to lists of sets."""
    def stay(name, one, other):
        if cell(cells[name], one) != cell(cells[name], other):
            return False
        told = [word(case, rule, cell(cells[speaker], world)) for world in (one, other)]
        return name == speaker or repr(told[0]) == repr(told[1])

    behind = {}
    for name in cells:
        parts = {tuple(sorted(w for w in case.worlds if stay(name, world, w))) for world in case.worlds}
        behind[name] = sorted(parts)
    return behind


def turns(case, rule, order):
    """[8]: the tuples (speaker, cells) up to the last turn that teaches."""
    cells = {name: case.cells(name) for name in case.names}
    found, length = [], 0
    # Each turn that teaches makes more cells, and a round without one is followed by none.
    most = len(order) * (len(case.names) * len(case.worlds) + 1)
    for number in range(most):
        speaker = order[number % len(order)]
        behind = turn(case, rule, cells, speaker)
        found.append((speaker, behind))
        if behind != cells:
            length = number + 1
        cells = behind
    return found[:length]


def row(case, rule, order, world, many):
    """[11]: the words that are said in the world in so many turns."""
    cells = {name: case.cells(name) for name in case.names}
    told = []
    for number in range(many):
        speaker = order[number % len(order)]
        told.append(word(case, rule, cell(cells[speaker], world)))
        cells = turn(case, rule, cells, speaker)
    return told


def splits(case, rule):
    """[7]: all splits, the less one first."""
    found = []
    for one in all_sets(case.worlds):
        for other in all_sets(case.worlds):
            if one < other and not set(one) & set(other):
                whole = tuple(sorted(one + other))
                told = [repr(word(case, rule, some)) for some in (one, other, whole)]
                if told[0] == told[1] != told[2]:
                    found.append((len(whole), (one, other)))
    return [split for _, split in sorted(found)]


def papers(case, rule, order, world):
    """[9]: all papers that people are alike in the world."""
    found = []
    for some in all_sets(case.worlds):
        parts = [part for name in order for part in case.cells(name) if set(part) & set(some)]
        if world in some and all(set(part) <= set(some) for part in parts):
            told = [word(case, rule, part) for part in parts]
            if all(repr(one) == repr(told[0]) for one in told):
                found.append((told[0], some))
    return found
