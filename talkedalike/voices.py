"""Voices: the words that a rule has in a case. A set is a mask here, an integer with a bit for each of its worlds."""

from math import gcd


class Masks:
    """The masks of the sets of a case's worlds: the least world has the lowest bit."""

    def __init__(self, case):
        self._worlds = sorted(case.worlds)
        self._bits = {world: 1 << at for at, world in enumerate(self._worlds)}

    def mask_of(self, some):
        """The mask of a set or an event."""
        mask = 0
        for world in some:
            mask |= self._bits[world]
        return mask

    def set_of(self, mask):
        """The set or the event of a mask."""
        return tuple([world for world in self._worlds if self._bits[world] & mask])

    def sets_of(self, masks):
        """The ascending list of the sets of masks."""
        return sorted([self.set_of(mask) for mask in masks])

    def all_sets(self):
        """The masks of all sets, in the order of the sets: ascending."""
        found = []
        for world in reversed(self._worlds):
            bit = self._bits[world]
            # The sets with this world are less than those of later worlds only.
            found = [bit] + [bit | mask for mask in found] + found
        return found

    def cells_of(self, case):
        """A dict from the names of all people to the masks of their cells."""
        return {name: [self.mask_of(cell) for cell in case.cells(name)] for name in case.names}


class Voice:
    """The words of what surely is a rule for a case, for sets as masks."""

    def __init__(self, case, masks, rule):
        # A rule that stands several times in another one is asked for its word only once.
        parts = {}
        self._shape = _shape_of(rule, parts)
        self._parts = [_prepared(case, masks, part) for part in parts]
        self._keys = {}

    def key(self, mask):
        """What two sets have in common just if they have the same word."""
        if mask not in self._keys:
            self._keys[mask] = tuple([_word_of(part, mask) for part in self._parts])
        return self._keys[mask]

    def word(self, mask):
        """The word of a set."""
        return _filled(self._shape, self.key(mask))

    def groups(self, cells):
        """The masks of the worlds with the same word, where these cells are those of the speaker."""
        found = {}
        for cell in cells:
            key = self.key(cell)
            found[key] = found.get(key, 0) | cell
        return list(found.values())

    def all_keys(self, many):
        """The list of the keys of all sets of so many worlds, at the places of their masks; nothing has none."""
        words = [_all_words(part, many) for part in self._parts]
        return [None] + list(zip(*words))


def parted(cells, groups):
    """The cells, parted into what they have of each group."""
    if len(groups) == 1:
        return cells
    return [cell & group for cell in cells for group in groups if cell & group]


def turned(cells, speaker, groups):
    """The cells of all, where everybody but the speaker hears in which group the world is."""
    return {name: cells[name] if name == speaker else parted(cells[name], groups) for name in cells}


def count_cells(cells):
    """How many cells all have together: more just if some cell was parted."""
    return sum([len(cells[name]) for name in cells])


def _shape_of(rule, parts):
    """The rule with the numbers of its parts, each of which is put among the parts if it is not there yet."""
    if rule[0] == "both":
        return (_shape_of(rule[1], parts), _shape_of(rule[2], parts))
    if rule not in parts:
        parts[rule] = len(parts)
    return parts[rule]


def _filled(shape, words):
    if isinstance(shape, tuple):
        return (_filled(shape[0], words), _filled(shape[1], words))
    return words[shape]


def _prepared(case, masks, part):
    """The kind of a part, what its words are told by, and the lists of tuples (bit, number) that it sums up."""
    kind = part[0]
    weights = [(masks.mask_of([world]), weight) for world, weight in zip(case.worlds, case.weights)]
    if kind == "table":
        told = {masks.mask_of(some): word for some, word in part[1]}
        # What is summed up is the mask itself.
        return (kind, told, [[(bit, bit) for bit, weight in weights]])
    if kind == "size":
        return (kind, part, [[(bit, 1) for bit, weight in weights]])
    if kind == "best":
        return (kind, part, [[(bit, weight * pay) for (bit, weight), pay in zip(weights, deed[1])] for deed in part[1]])
    event = masks.mask_of(part[1])
    return (kind, part, [[(bit, weight) for bit, weight in weights if bit & event], weights])


def _word_of(part, mask):
    kind, told, rows = part
    tell = TELLERS[kind]
    return tell(told, [sum([number for bit, number in row if bit & mask]) for row in rows])


def _all_words(part, many):
    """The words for all sets, in the order of their masks."""
    kind, told, rows = part
    tell = TELLERS[kind]
    columns = [_all_sums(row, many)[1:] for row in rows]
    return [tell(told, sums) for sums in zip(*columns)]


def _all_sums(row, many):
    numbers = dict(row)
    sums = [0]
    for at in range(many):
        number = numbers.get(1 << at, 0)
        sums = sums + [total + number for total in sums]
    return sums


def _chance(rule, sums):
    common = gcd(sums[0], sums[1])
    return (sums[0] // common, sums[1] // common)


def _atleast(rule, sums):
    return sums[0] * rule[3] >= rule[2] * sums[1]


def _floor(rule, sums):
    return sums[0] * rule[2] // sums[1]


def _sure(rule, sums):
    # Weights are 1 or more, so that they tell whether any world is there.
    if sums[0] == sums[1]:
        return "yes"
    return "open" if sums[0] else "no"


def _best(rule, sums):
    return rule[1][sums.index(max(sums))][0]


def _size(rule, sums):
    return sums[0]


def _table(told, sums):
    return told[sums[0]]


TELLERS = {
    "chance": _chance, "atleast": _atleast, "floor": _floor, "sure": _sure, "best": _best,
    "size": _size, "table": _table,
}
