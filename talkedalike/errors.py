"""The errors: each keeps what it is raised for, in an attribute with the name of its parameter."""


class TalkError(ValueError):
    """Any error of the program."""


class BadWorlds(TalkError):
    """For what is no list or tuple of one or more unlike names."""

    def __init__(self, value):
        self.value = value


class BadWeights(TalkError):
    """For what is no list or tuple of integers from 1 on, one for each world."""

    def __init__(self, value):
        self.value = value


class BadPeople(TalkError):
    """For what is no list or tuple of one or more things."""

    def __init__(self, value):
        self.value = value


class BadPerson(TalkError):
    """For a thing among the people, by its number from 0, that is no person."""

    def __init__(self, number):
        self.number = number


class NamedTwice(TalkError):
    """For a name that an earlier person has."""

    def __init__(self, name):
        self.name = name


class NoPerson(TalkError):
    """For what is no name of a person of the case."""

    def __init__(self, value):
        self.value = value


class NoWorld(TalkError):
    """For what is no world of the case."""

    def __init__(self, value):
        self.value = value


class NoSet(TalkError):
    """For what is no set of the case's worlds."""

    def __init__(self, value):
        self.value = value


class BadEvent(TalkError):
    """For what is no event of the case's worlds."""

    def __init__(self, value):
        self.value = value


class BadRule(TalkError):
    """For what is no rule for the case."""

    def __init__(self, value):
        self.value = value


class BadOrder(TalkError):
    """For what is no order of the case's people."""

    def __init__(self, value):
        self.value = value


class BadWeb(TalkError):
    """For what is no web of the case's people."""

    def __init__(self, value):
        self.value = value


class BadNumber(TalkError):
    """For what is no number of turns, or no list of as many things."""

    def __init__(self, value):
        self.value = value


class NotSettled(TalkError):
    """For a case that is not settled for the order."""


class BadCells(TalkError):
    """For what is no cells of the case's worlds."""

    def __init__(self, value):
        self.value = value


class BadName(TalkError):
    """For what is no name."""

    def __init__(self, value):
        self.value = value


class LastOne(TalkError):
    """For the leaving of the last person."""


class Nothing(TalkError):
    """For taking back where there is no event."""


class BadLine(TalkError):
    """For a text, by the number from 1 of its first line that is wrong."""

    def __init__(self, line):
        self.line = line
