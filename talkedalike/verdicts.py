"""Verdicts: whether a rule keeps together, and otherwise the splits, and the quarrel that comes of the least."""

from talkedalike.cases import Case, is_set
from talkedalike.rules import need_rule
from talkedalike.voices import Masks, Voice


def keeps_together(case, rule):
    """Whether the set of all worlds of two sets apart with the same word always has this word."""
    return least_split(case, rule) is None


def splits(case, rule):
    """The list of all splits, the less one first."""
    search = _search(case, rule)
    found = []
    for many in search.sizes():
        found.extend(search.splits_of(many))
    return found


def least_split(case, rule):
    """The least split, None if there is none."""
    search = _search(case, rule)
    for many in search.sizes():
        found = search.splits_of(many)
        if found:
            return found[0]
    return None


def is_split(case, rule, value):
    """Whether any value is a split."""
    need_rule(case, rule)
    if not isinstance(value, tuple) or len(value) != 2 or not all([is_set(case, some) for some in value]):
        return False
    one, other = value
    if not one < other or not all([world not in one for world in other]):
        return False
    masks = Masks(case)
    voice = Voice(case, masks, rule)
    key = voice.key(masks.mask_of(one))
    return key == voice.key(masks.mask_of(other)) and key != voice.key(masks.mask_of(one + other))


def quarrel(case, rule):
    """The case of two people who say unlike words about the least split for ever, None if there is none."""
    split = least_split(case, rule)
    return None if split is None else _quarrel_of(case, split)


def decide(case, rule):
    """("together", None), or ("apart", split, quarrel)."""
    split = least_split(case, rule)
    return ("together", None) if split is None else ("apart", split, _quarrel_of(case, split))


class Search:
    """The search for the splits of a rule: the sets of a case, and a number for each word that they have."""

    def __init__(self, case, masks, voice):
        self._many = len(case.worlds)
        self._masks = masks.all_sets()
        self._sets = [masks.set_of(mask) for mask in self._masks]
        self._places = {mask: place for place, mask in enumerate(self._masks)}
        numbers = {}
        # Numbers are held against one another more quickly than words.
        self._numbers = [numbers.setdefault(key, len(numbers)) for key in voice.all_keys(self._many)]

    def sizes(self):
        """The numbers of worlds that two sets apart may have together."""
        return list(range(2, self._many + 1))

    def splits_of(self, many):
        """The ascending list of the splits with so many worlds together."""
        found = []
        for whole, some in zip(self._masks, self._sets):
            if len(some) == many:
                found.extend(self._splits_of_whole(whole))
        pairs = sorted(found)
        return [(self._sets[one], self._sets[other]) for one, other in pairs]

    def _splits_of_whole(self, whole):
        """The places of the sets of each split whose worlds together are these."""
        numbers = self._numbers
        word = numbers[whole]
        found = []
        # The one has the least world of all, as it is less than the other.
        rest = whole & (whole - 1)
        other = rest
        while other:
            if numbers[other] != word and numbers[other] == numbers[whole ^ other]:
                found.append((self._places[whole ^ other], self._places[other]))
            other = (other - 1) & rest
        return found


def _search(case, rule):
    need_rule(case, rule)
    masks = Masks(case)
    return Search(case, masks, Voice(case, masks, rule))


def _quarrel_of(case, split):
    one, other = split
    alone = tuple([(world,) for world in case.worlds if world not in one + other])
    people = [("one", (one, other) + alone), ("other", (one + other,) + alone)]
    return Case(case.worlds, case.weights, people)
