"""Point [14]: the errors, their base classes and what they keep."""

import inspect
import unittest

from talkedalike import errors
from talkedalike.cases import Case
from talkedalike.errors import TalkError
from tests.helpers import values_of_all_kinds

KEPT = {
    "BadWorlds": "value", "BadWeights": "value", "BadPeople": "value", "BadPerson": "number",
    "NamedTwice": "name", "NoPerson": "value", "NoWorld": "value", "NoSet": "value", "BadEvent": "value",
    "BadRule": "value", "BadOrder": "value", "BadWeb": "value", "BadNumber": "value", "NotSettled": None,
    "BadCells": "value", "BadName": "value", "LastOne": None, "Nothing": None, "BadLine": "line",
}
WITH_ARGUMENT = [(getattr(errors, name), kept) for name, kept in KEPT.items() if kept]
WITHOUT = [getattr(errors, name) for name, kept in KEPT.items() if not kept]


def values_to_keep():
    case = Case(["a"], [1], [("ann", (("a",),))])
    return values_of_all_kinds() + ["ann", "a", ("a",), [], (), case, errors.LastOne(), 10 ** 6000]


class ClassesTest(unittest.TestCase):
    def test_talk_error_is_a_direct_subclass_of_value_error(self):
        self.assertEqual(TalkError.__bases__, (ValueError,))

    def test_there_are_the_nineteen_classes_and_no_others(self):
        defined = [name for name, thing in vars(errors).items() if inspect.isclass(thing)]
        self.assertEqual(len(KEPT), 19)
        self.assertEqual(sorted(defined), sorted([*KEPT, "TalkError"]))

    def test_each_is_a_direct_subclass_of_talk_error(self):
        for name in KEPT:
            with self.subTest(name=name):
                self.assertEqual(getattr(errors, name).__bases__, (TalkError,))

    def test_each_stands_in_the_errors_file(self):
        for name in [*KEPT, "TalkError"]:
            with self.subTest(name=name):
                self.assertEqual(getattr(errors, name).__module__, "talkedalike.errors")


class AttributesTest(unittest.TestCase):
    def test_by_position(self):
        for error, kept in WITH_ARGUMENT:
            for value in values_to_keep():
                made = error(value)
                self.assertEqual(list(vars(made)), [kept])
                self.assertIs(getattr(made, kept), value)

    def test_by_name(self):
        for error, kept in WITH_ARGUMENT:
            for value in values_to_keep():
                made = error(**{kept: value})
                self.assertEqual(list(vars(made)), [kept])
                self.assertIs(getattr(made, kept), value)

    def test_two_of_one_class_keep_their_own(self):
        for error, kept in WITH_ARGUMENT:
            one, other = error("one"), error("other")
            self.assertEqual([getattr(one, kept), getattr(other, kept)], ["one", "other"])

    def test_those_without_an_argument_keep_nothing(self):
        for error in WITHOUT:
            self.assertEqual(vars(error()), {})

    def test_those_with_an_argument_need_just_one_of_its_name(self):
        for error, kept in WITH_ARGUMENT:
            self.assertRaises(TypeError, error)
            self.assertRaises(TypeError, error, 1, 2)
            self.assertRaises(TypeError, error, **{kept + "s": 1})


class RaisingTest(unittest.TestCase):
    def test_each_can_be_raised_and_caught(self):
        made = [error("x") for error, _ in WITH_ARGUMENT] + [error() for error in WITHOUT]
        for error in made:
            for caught_as in (type(error), TalkError, ValueError):
                with self.assertRaises(caught_as) as caught:
                    raise error
                self.assertIs(caught.exception, error)

    def test_none_is_caught_as_another_one(self):
        made = [error("x") for error, _ in WITH_ARGUMENT] + [error() for error in WITHOUT]
        for error in made:
            others = [getattr(errors, name) for name in KEPT if name != type(error).__name__]
            self.assertNotIsInstance(error, tuple(others))


if __name__ == "__main__":
    unittest.main()
