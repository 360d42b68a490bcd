"""Cases, rules and orders that are drawn, the same ones in each run."""

import random

from talkedalike.cases import Case
from tests.by_the_words import all_sets
from tests.helpers import events

LETTERS = "abcdefgh"
PEOPLE = ["ann", "bob", "cas", "dora", "emil", "fay"]
TOGETHER = ["chance", "atleast", "floor", "sure", "best"]


def drawer(seed):
    return random.Random(seed)


def draw_cells(draw, worlds):
    places = [draw.randrange(draw.randint(1, len(worlds))) for _ in worlds]
    found = [tuple(world for world, place in zip(worlds, places) if place == at) for at in sorted(set(places))]
    draw.shuffle(found)
    return tuple(found)


def draw_case(draw, most_worlds=5, most_people=3):
    worlds = list(LETTERS[:draw.randint(1, most_worlds)])
    draw.shuffle(worlds)
    most = draw.choice([1, 3, 10 ** 30])
    weights = [draw.randint(1, most) for _ in worlds]
    names = draw.sample(PEOPLE, draw.randint(1, most_people))
    return Case(worlds, weights, [(name, draw_cells(draw, worlds)) for name in names])


def draw_rule(draw, case, kinds, levels=2):
    """A rule of the kinds that are named; "both" is drawn, too, as long as levels are left."""
    if levels and draw.random() < 0.3:
        return ("both", draw_rule(draw, case, kinds, levels - 1), draw_rule(draw, case, kinds, levels - 1))
    kind, event = draw.choice(kinds), draw.choice(events(case.worlds))
    if kind in ("chance", "sure"):
        return (kind, event)
    if kind == "atleast":
        return (kind, event, draw.randint(0, 4), draw.randint(1, 4))
    if kind == "floor":
        return (kind, event, draw.randint(1, 5))
    if kind == "size":
        return (kind,)
    if kind == "table":
        return (kind, tuple((some, draw.choice([0, 1, "no"])) for some in all_sets(case.worlds)))
    names = draw.sample(["go", "stay", "wait", "a"], draw.randint(1, 4))
    return (kind, tuple((name, tuple(draw.randint(-2, 2) for _ in case.worlds)) for name in names))


def draw_order(draw, case):
    return tuple(draw.choice(case.names) for _ in range(draw.randint(1, 5)))


def draw_all_order(draw, case):
    """An order that names everybody."""
    order = case.names + list(draw_order(draw, case))
    draw.shuffle(order)
    return tuple(order)
