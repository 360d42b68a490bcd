"""Verdicts: whether a rule keeps together, and otherwise the splits, and the quarrel that comes of the least."""

from talkedalike.cases import Case, is_set, sets_of
from talkedalike.rules import are_one_word, need_rule, spoken, words


def keeps_together(case, rule):
    """Whether the set of all worlds of two sets apart with the same word always has this word."""
    return not splits(case, rule)


def splits(case, rule):
    """The list of all splits, the less one first."""
    word_by_set = {some: word for some, word in words(case, rule)}
    found = []
    for whole in sets_of(case.worlds):
        for one in sets_of(whole):
            other = tuple([world for world in whole if world not in one])
            # Each two sets are met twice, and one of them is all and the other one nothing once.
            if one < other and _fails(word_by_set[one], word_by_set[other], word_by_set[whole]):
                found.append((one, other))
    return sorted(found, key=_rank)


def least_split(case, rule):
    """The least split, None if there is none."""
    found = splits(case, rule)
    return found[0] if found else None


def is_split(case, rule, value):
    """Whether any value is a split."""
    need_rule(case, rule)
    if not isinstance(value, tuple) or len(value) != 2 or not all([is_set(case, some) for some in value]):
        return False
    one, other = value
    if not one < other or not all([world not in one for world in other]):
        return False
    whole = tuple(sorted(one + other))
    return _fails(spoken(case, rule, one), spoken(case, rule, other), spoken(case, rule, whole))


def quarrel(case, rule):
    """The case of two people who say unlike words about the least split for ever, None if there is none."""
    split = least_split(case, rule)
    return None if split is None else _quarrel_of(case, split)


def decide(case, rule):
    """("together", None), or ("apart", split, quarrel)."""
    split = least_split(case, rule)
    return ("together", None) if split is None else ("apart", split, _quarrel_of(case, split))


def _fails(word, same, whole):
    return are_one_word(word, same) and not are_one_word(word, whole)


def _rank(split):
    return (len(split[0]) + len(split[1]), split)


def _quarrel_of(case, split):
    one, other = split
    alone = tuple([(world,) for world in case.worlds if world not in one + other])
    people = [("one", (one, other) + alone), ("other", (one + other,) + alone)]
    return Case(case.worlds, case.weights, people)
