"""What is checked of all functions alike: each refusal, by position and by name, and which one of several is due."""

from tests.helpers import Refusals, values_of_all_kinds


class CallChecks(Refusals):
    """For a TestCase that has bad, a dict from parameters to tuples (error, values), and calls, a method."""

    bad = {}

    def calls(self):
        """Each function with a dict of arguments that are good, in the order of its parameters."""
        raise NotImplementedError

    def unlike_pairs(self):
        """How often two parameters of one function may both be refused."""
        refusing = [len([name for name in named if name in self.bad]) for _, named in self.calls()]
        return sum(many * (many - 1) // 2 for many in refusing)

    def test_by_position_and_by_name_the_same_is_told(self):
        for function, named in self.calls():
            with self.subTest(name=function.__name__):
                due = function(*named.values())
                self.assertEqual(function(**named), due)
                self.assertEqual(function(**dict(reversed(list(named.items())))), due)

    def test_each_refusal_by_position_and_by_name(self):
        for function, named in self.calls():
            for parameter in self.bad.keys() & named.keys():
                error, values = self.bad[parameter]
                for value in values:
                    with self.subTest(name=function.__name__, parameter=parameter, value=repr(value)[:99]):
                        bad = {**named, parameter: value}
                        self.refused_value(error, value, function, *bad.values())
                        self.refused_value(error, value, function, **bad)

    def test_of_two_refusals_the_one_of_the_earlier_parameter_is_due(self):
        tried = 0
        for function, named in self.calls():
            refusing = [parameter for parameter in named if parameter in self.bad]
            for at, first in enumerate(refusing):
                for second in refusing[at + 1:]:
                    (error, values), others = self.bad[first], self.bad[second][1]
                    for value, other in [(values[0], others[0]), (values[-1], others[-1]), (None, "!")]:
                        with self.subTest(name=function.__name__, parameters=(first, second)):
                            bad = {**named, first: value, second: other}
                            self.refused_value(error, value, function, *bad.values())
                            self.refused_value(error, value, function, **bad)
                            tried += 1
        self.assertEqual(tried, 3 * self.unlike_pairs())

    def test_of_all_refusals_at_once_the_first_is_due(self):
        for function, named in self.calls():
            refusing = [parameter for parameter in named if parameter in self.bad]
            if refusing:
                bad = {parameter: None if parameter in refusing else value for parameter, value in named.items()}
                with self.subTest(name=function.__name__):
                    self.refused_value(self.bad[refusing[0]][0], None, function, **bad)

    def test_a_refusal_changes_nothing_and_neither_does_an_answer(self):
        for function, named in self.calls():
            before = {parameter: self.seen(value) for parameter, value in named.items()}
            function(**named)
            for parameter in self.bad.keys() & named.keys():
                with self.assertRaises(self.bad[parameter][0]):
                    function(**{**named, parameter: {}})
            self.assertEqual({parameter: self.seen(value) for parameter, value in named.items()}, before)

    def test_whatever_the_value_the_other_parameters_are_refused(self):
        for function, named in self.calls():
            first = [parameter for parameter in named if parameter != "case"][0]
            if "value" in named and first != "value":
                for value in values_of_all_kinds() + [[], ()]:
                    bad = {**named, first: {}, "value": value}
                    self.refused_value(self.bad[first][0], {}, function, **bad)

    def seen(self, value):
        """What there is to see of an argument, to find out whether something changed it."""
        if hasattr(value, "names"):
            return (value.worlds, value.weights, value.names, [value.cells(name) for name in value.names])
        return repr(value)
