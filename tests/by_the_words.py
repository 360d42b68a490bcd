"""What the document says of rules, talks and so on, done straight by its words, however slow that is."""

import re
from fractions import Fraction
from itertools import combinations
from math import floor, gcd


def all_sets(worlds):
    """All sets of the worlds, ascending."""
    return sorted(some for many in range(1, len(worlds) + 1) for some in combinations(sorted(worlds), many))


def word(case, rule, some):
    """[6]: the rule's word for a set."""
    kind, weight = rule[0], dict(zip(case.worlds, case.weights))
    if kind == "both":
        return tuple(word(case, part, some) for part in rule[1:])
    if kind == "size":
        return len(some)
    if kind == "table":
        return dict(rule[1])[some]
    if kind == "best":
        def worth(pays):
            return sum(weight[world] * pay for world, pay in zip(case.worlds, pays) if world in some)
        best = max(worth(pays) for _, pays in rule[1])
        return next(name for name, pays in rule[1] if worth(pays) == best)
    inside = set(some) & set(rule[1])
    if kind == "sure":
        return "yes" if inside == set(some) else "open" if inside else "no"
    chance = Fraction(sum(weight[world] for world in inside), sum(weight[world] for world in some))
    if kind == "chance":
        return (chance.numerator, chance.denominator)
    if kind == "atleast":
        return chance >= Fraction(rule[2], rule[3])
    return floor(chance * rule[2])


def cell(cells, world):
    return next(cell for cell in cells if world in cell)


def turn(case, rule, cells, speaker):
    """[8]: the cells of all, behind a turn; cells is a dict from names to lists of sets."""
    def stay(name, one, other):
        if cell(cells[name], one) != cell(cells[name], other):
            return False
        told = [word(case, rule, cell(cells[speaker], world)) for world in (one, other)]
        return name == speaker or repr(told[0]) == repr(told[1])

    behind = {}
    for name in cells:
        parts = {tuple(sorted(w for w in case.worlds if stay(name, world, w))) for world in case.worlds}
        behind[name] = sorted(parts)
    return behind


def turns(case, rule, order):
    """[8]: the tuples (speaker, cells) up to the last turn that teaches."""
    cells = {name: case.cells(name) for name in case.names}
    found, length = [], 0
    # Each turn that teaches makes more cells, and a round without one is followed by none.
    most = len(order) * (len(case.names) * len(case.worlds) + 1)
    for number in range(most):
        speaker = order[number % len(order)]
        behind = turn(case, rule, cells, speaker)
        found.append((speaker, behind))
        if behind != cells:
            length = number + 1
        cells = behind
    return found[:length]


def row(case, rule, order, world, many):
    """[11]: the words that are said in the world in so many turns."""
    cells = {name: case.cells(name) for name in case.names}
    told = []
    for number in range(many):
        speaker = order[number % len(order)]
        told.append(word(case, rule, cell(cells[speaker], world)))
        cells = turn(case, rule, cells, speaker)
    return told


def splits(case, rule):
    """[7]: all splits, the less one first."""
    found = []
    for one in all_sets(case.worlds):
        for other in all_sets(case.worlds):
            if one < other and not set(one) & set(other):
                whole = tuple(sorted(one + other))
                told = [repr(word(case, rule, some)) for some in (one, other, whole)]
                if told[0] == told[1] != told[2]:
                    found.append((len(whole), (one, other)))
    return [split for _, split in sorted(found)]


def papers(case, rule, order, world):
    """[9]: all papers that people are alike in the world."""
    found = []
    for some in all_sets(case.worlds):
        parts = [part for name in order for part in case.cells(name) if set(part) & set(some)]
        if world in some and all(set(part) <= set(some) for part in parts):
            told = [word(case, rule, part) for part in parts]
            if all(repr(one) == repr(told[0]) for one in told):
                found.append((told[0], some))
    return found


def whispering(case, rule, web):
    """[10]: the cells of all behind each whisper, up to the last one that teaches."""
    cells = {name: case.cells(name) for name in case.names}
    states = []
    length = 0
    # A round without one that teaches is followed by none.
    while len(states) < length + len(web):
        number = len(states)
        speaker, hearer = web[number % len(web)]
        behind = {**cells, hearer: turn(case, rule, cells, speaker)[hearer]}
        states.append(behind)
        if behind != cells:
            length = number + 1
        cells = behind
    return states[:length]


def shortest_way(names, web, person, other):
    """[10]: the number of whispers of the shortest row that leads from one to the other, None if there is none."""
    last = {person}
    for many in range(len(names)):
        if other in last:
            return many
        last = {hearer for speaker, hearer in web if speaker in last}
    return None


def is_way(web, person, other, way):
    at = person
    for whisper in way:
        if whisper not in web or whisper[0] != at:
            return False
        at = whisper[1]
    return at == other


def deaf_sets(names, web):
    """[10]: all deaf sets, the least one by length, then ascending, first."""
    found = []
    for some in all_sets(names):
        inside = [whisper for whisper in web if whisper[1] in some and whisper[0] not in some]
        if len(some) < len(names) and not inside:
            found.append(some)
    return sorted(found, key=lambda some: (len(some), some))


def told_cells(case, rule, order):
    """[11]: the sets of the worlds with the same row, for as many turns as the length and one round more."""
    many = len(turns(case, rule, order)) + len(order)
    rows = {world: repr(row(case, rule, order, world, many)) for world in case.worlds}
    return sorted({tuple(sorted(w for w in rows if rows[w] == rows[world])) for world in rows})


def hall(case, events):
    """[12]: the people with their cells behind events, and what is heard in each world."""
    cells = {name: case.cells(name) for name in case.names}
    heard = {world: [] for world in case.worlds}
    for kind, person, *rest in events:
        if kind in ("say", "whisper"):
            rule = rest[-1]
            for world in case.worlds:
                heard[world].append(word(case, rule, cell(cells[person], world)))
            behind = turn(case, rule, cells, person)
            cells = behind if kind == "say" else {**cells, rest[0]: behind[rest[0]]}
        elif kind == "look":
            for world in case.worlds:
                heard[world].append("yes" if world in rest[0] else "no")
            parts = [tuple(w for w in some if (w in rest[0]) == so) for some in cells[person] for so in (True, False)]
            cells = {**cells, person: sorted(part for part in parts if part)}
        elif kind == "come":
            cells = {**cells, person: sorted(tuple(sorted(some)) for some in rest[0])}
        else:
            cells = {name: cells[name] for name in cells if name != person}
    return cells, heard


def lines_begin_a_text(lines):
    """[13]: whether there is a text that begins with these lines."""
    if lines and not re.fullmatch(r"worlds( [a-z]{1,8})+", lines[0]):
        return False
    worlds = lines[0].split(" ")[1:] if lines else []
    if len(set(worlds)) < len(worlds):
        return False
    if len(lines) > 1 and not re.fullmatch("weights" + " [1-9][0-9]*" * len(worlds), lines[1]):
        return False
    names = [line.split(" ")[0] for line in lines[2:]]
    if len(set(names)) < len(names):
        return False
    for line in lines[2:]:
        if not re.fullmatch(r"[a-z]{1,8}( [a-z]{1,8})+( \|( [a-z]{1,8})+)*", line):
            return False
        if sorted(each for each in line.split(" ")[1:] if each != "|") != sorted(worlds):
            return False
    return True


def bad_line(text):
    """[13]: the line for which a text is refused, None if it is good."""
    lines = text.split("\n")
    for number in range(len(lines)):
        if not lines_begin_a_text(lines[:number + 1]):
            return number + 1
    return None if len(lines) > 2 else len(lines) + 1


def form_word(form, share):
    """[16]: the word of a form for a share, which is a Fraction."""
    if form[0] == "pair":
        return (form_word(form[1], share), form_word(form[2], share))
    if form[0] == "read":
        told = form_word(form[1], share)
        return next((second for first, second in form[2] if repr(first) == repr(told)), told)
    come_to = [told for side, at, told in form[2] if share > Fraction(*at) or (side == "at" and share == Fraction(*at))]
    return ([form[1]] + come_to)[-1]


def cut_points(form):
    """The shares, as Fractions, at which the word of a form may change, nothing and all among them; ascending."""
    if form[0] == "cut":
        found = {Fraction(*at) for _, at, _ in form[2]}
    else:
        found = set(cut_points(form[1])) | (set(cut_points(form[2])) if form[0] == "pair" else set())
    return sorted(found | {Fraction(0), Fraction(1)})


def probes(points):
    """The tuples (side, point, share) for each point, and for a share behind it ahead of the next one."""
    found = [("at", points[0], points[0])]
    for low, high in zip(points, points[1:]):
        found += [("above", low, (low + high) / 2), ("at", high, high)]
    return found


def starts(form):
    """[17]: the starts of a form."""
    found = []
    for side, point, share in probes(cut_points(form)):
        told = form_word(form, share)
        if not found or repr(found[-1][2]) != repr(told):
            found.append((side, (point.numerator, point.denominator), told))
    return found


def shares(most):
    """All shares with bottoms up to the greatest, the simplest first, as Fractions."""
    return [Fraction(top, bottom) for bottom in range(1, most + 1) for top in range(bottom + 1) if gcd(top, bottom) == 1]


def is_good(form, classes):
    """[20]: whether three shares, ascending, show that classes are not good: held against shares between all cuts."""
    told = [form_word(form, share) for _, _, share in probes(cut_points(form))]
    placed = [next(number for number, some in enumerate(classes) if each in some) for each in told]
    return all(one != other or one == mid for one, mid, other in combinations(placed, 3))


def class_lists(words):
    """All ways to part words into classes."""
    if not words:
        return [[]]
    found = []
    for rest in class_lists(words[:-1]):
        found.append(rest + [[words[-1]]])
        found += [rest[:at] + [some + [words[-1]]] + rest[at + 1:] for at, some in enumerate(rest)]
    return found
