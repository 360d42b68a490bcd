"""What several test files need: values of many kinds, small cases, and a check of refusals."""

from talkedalike.cases import Case
from talkedalike.errors import TalkError


def nested(levels):
    """A value that goes so many levels deep, of tuples, lists and dicts by turns."""
    value = "a"
    for level in range(levels):
        value = [(value,), [value], {"a": value}][level % 3]
    return value


def values_of_all_kinds():
    """New values of many kinds, none of which is a name, world, person, set, cells or a list of such."""
    return [
        0, 1, 2, -1, 10 ** 59, -10 ** 59, True, False, None,
        "", " ", "a b", "a\n", "\ta", "Ann", "a1", "a-b", "abcdefghi", "~",
        (True,), (None,), (1, 2), [0], ["a", 1], {}, {"a": 1}, {1: ["a"]}, [[]], [{}], ([],), ({},), ((),),
        ("a", []), (["a"],), ("a", {}), [("a", "b")], nested(18), nested(19), nested(20),
    ]


def two_people(worlds, ann, bob):
    """A case of ann and bob over worlds of one letter each, all weights 1; cells as in cells()."""
    return Case(list(worlds), [1] * len(worlds), [("ann", cells(ann)), ("bob", cells(bob))])


def cells(words):
    """Cells over worlds of one letter each, written as words: "ab c" is (("a", "b"), ("c",))."""
    return tuple(tuple(word) for word in words.split())


def partitions(worlds):
    """All ways to part a list of worlds into cells."""
    if not worlds:
        return [()]
    first, found = worlds[0], []
    for rest in partitions(worlds[1:]):
        found.append(((first,),) + rest)
        for at, cell in enumerate(rest):
            found.append(rest[:at] + ((first,) + cell,) + rest[at + 1:])
    return found


def small_cases(worlds):
    """All cases of two people over the worlds, all weights 1."""
    parted = partitions(list(worlds))
    return [Case(list(worlds), [1] * len(worlds), [("ann", ann), ("bob", bob)]) for ann in parted for bob in parted]


def events(worlds):
    """All events of the worlds, the empty one too."""
    found = [()]
    for world in sorted(worlds):
        found = found + [event + (world,) for event in found]
    return found


def seen_of(case):
    """All that a case tells about itself, to find out whether something changed it."""
    return (case.worlds, case.weights, case.names, [case.cells(name) for name in case.names])


class Refusals:
    """For a TestCase: whether a call raises just the error that is due."""

    def refused(self, error, call, /, *args, **named):
        """Check that the call raises the error, which has these attributes and no others."""
        attributes = named.pop("attributes")
        with self.assertRaises(TalkError) as caught:
            call(*args, **named)
        raised = caught.exception
        self.assertIs(type(raised), error)
        self.assertEqual(repr(vars(raised)), repr(attributes))

    def refused_value(self, error, value, call, /, *args, **named):
        """Check that the call raises the error with the value, and leaves the value as it was."""
        before = repr(value)
        self.refused(error, call, *args, attributes={"value": value}, **named)
        self.assertEqual(repr(value), before)


def exchanged(value):
    """The value with one thing in it exchanged, left out, put in, turned round, or made of another kind."""
    if isinstance(value, (tuple, list)):
        kind = type(value)
        things = list(value)
        found = [tuple(things) if kind is list else things, things + [things], kind(things * 2)]
        if kind(things[::-1]) != value:
            found.append(kind(things[::-1]))
        for at, thing in enumerate(things):
            found.append(kind(things[:at] + things[at + 1:]))
            found.append(kind(things[:at] + [thing] + things[at:]))
            found += [kind(things[:at] + [new] + things[at + 1:]) for new in exchanged(thing)]
        return found
    if isinstance(value, bool):
        return [int(value), not value, None, "yes", (value,)]
    if isinstance(value, int):
        return [bool(value)] * (value in (0, 1)) + [value + 1, value - 1, -value - 7, None, str(value), (value,), [value]]
    return [value + "a", value + "\n", "", value.upper(), "z", 1, None, (value,), [value], {value: value}]
