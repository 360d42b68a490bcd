"""Cases, rules, orders, webs, events of halls and forms that are drawn, the same ones in each run."""

import random
from fractions import Fraction
from math import gcd

from talkedalike.cases import Case
from tests.by_the_words import all_sets, starts
from tests.helpers import events

LETTERS = "abcdefgh"
PEOPLE = ["ann", "bob", "cas", "dora", "emil", "fay"]
TOGETHER = ["chance", "atleast", "floor", "sure", "best"]


def drawer(seed):
    return random.Random(seed)


def draw_cells(draw, worlds):
    places = [draw.randrange(draw.randint(1, len(worlds))) for _ in worlds]
    found = [tuple(world for world, place in zip(worlds, places) if place == at) for at in sorted(set(places))]
    draw.shuffle(found)
    return tuple(found)


def draw_case(draw, most_worlds=5, most_people=3):
    worlds = list(LETTERS[:draw.randint(1, most_worlds)])
    draw.shuffle(worlds)
    most = draw.choice([1, 3, 10 ** 30])
    weights = [draw.randint(1, most) for _ in worlds]
    names = draw.sample(PEOPLE, draw.randint(1, most_people))
    return Case(worlds, weights, [(name, draw_cells(draw, worlds)) for name in names])


def draw_rule(draw, case, kinds, levels=2):
    """A rule of the kinds that are named; "both" is drawn, too, as long as levels are left."""
    if levels and draw.random() < 0.3:
        return ("both", draw_rule(draw, case, kinds, levels - 1), draw_rule(draw, case, kinds, levels - 1))
    kind, event = draw.choice(kinds), draw.choice(events(case.worlds))
    if kind in ("chance", "sure"):
        return (kind, event)
    if kind == "atleast":
        return (kind, event, draw.randint(0, 4), draw.randint(1, 4))
    if kind == "floor":
        return (kind, event, draw.randint(1, 5))
    if kind == "size":
        return (kind,)
    if kind == "table":
        return (kind, tuple((some, draw.choice([0, 1, "no"])) for some in all_sets(case.worlds)))
    names = draw.sample(["go", "stay", "wait", "a"], draw.randint(1, 4))
    return (kind, tuple((name, tuple(draw.randint(-2, 2) for _ in case.worlds)) for name in names))


def draw_order(draw, case):
    return tuple(draw.choice(case.names) for _ in range(draw.randint(1, 5)))


def draw_all_order(draw, case):
    """An order that names everybody."""
    order = case.names + list(draw_order(draw, case))
    draw.shuffle(order)
    return tuple(order)


def draw_web(draw, names, most=6):
    """A web of people, of whom there are two or more."""
    return [tuple(draw.sample(names, 2)) for _ in range(draw.randint(1, most))]


def draw_event(draw, case):
    return draw.choice(events(case.worlds))


def draw_hall_events(draw, case, kinds, many):
    """Events that can be done one after the other in a hall."""
    names, found = list(case.names), []
    for _ in range(many):
        kind = draw.choice(["say", "say", "whisper", "whisper", "look", "come", "leave"])
        person, free = draw.choice(names), [name for name in PEOPLE if name not in names]
        if kind == "whisper" and len(names) > 1:
            hearer = draw.choice([name for name in names if name != person])
            found.append((kind, person, hearer, draw_rule(draw, case, kinds)))
        elif kind == "look":
            found.append((kind, person, draw_event(draw, case)))
        elif kind == "come" and free:
            names.append(draw.choice(free))
            found.append((kind, names[-1], draw_cells(draw, case.worlds)))
        elif kind == "leave" and len(names) > 1:
            names.remove(person)
            found.append((kind, person))
        else:
            found.append(("say", person, draw_rule(draw, case, kinds)))
    return found


def draw_share(draw, most=6):
    bottom = draw.randint(1, most)
    top = draw.randint(0, bottom)
    return (top // gcd(top, bottom), bottom // gcd(top, bottom))


def draw_three(draw, most=6):
    """Three ascending shares."""
    found = {draw_share(draw, most) for _ in range(3)}
    return tuple(sorted(found, key=lambda share: Fraction(*share))) if len(found) == 3 else draw_three(draw, most)


def draw_cut(draw, words, most=6):
    shares = sorted({draw_share(draw, most) for _ in range(draw.randint(0, 4))}, key=lambda share: Fraction(*share))
    rows = [(side, share) for share in shares for side in ("at", "above")]
    rows = [row for row in rows if row not in [("at", (0, 1)), ("above", (1, 1))] and draw.random() < 0.7]
    return ("cut", draw.choice(words), tuple(row + (draw.choice(words),) for row in rows))


def draw_form(draw, levels=2, most=6, words=("low", "mid", 1, 2)):
    """A form with not too many words."""
    kind = draw.choice(["cut", "cut", "read", "pair"]) if levels else "cut"
    if kind == "pair":
        return (kind, draw_form(draw, levels - 1, most, words[:2]), draw_form(draw, levels - 1, most, words[-2:]))
    if kind == "read":
        inner = draw_form(draw, levels - 1, most, words)
        told = sorted({repr(word): word for word in [*words_told(inner), "none", (1, 2)]}.items())
        firsts = draw.sample([word for _, word in told], draw.randint(0, len(told)))
        return (kind, inner, tuple((first, draw.choice(words)) for first in firsts))
    return draw_cut(draw, words, most)


def words_told(form):
    return [word for _, _, word in starts(form)]
