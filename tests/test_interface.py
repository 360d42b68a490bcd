"""The first paragraphs of the interface: each name in its file, with its parameters in their order."""

import importlib
import inspect
import unittest

FUNCTIONS = {
    "cases": {
        "is_name": "value", "is_set": "case value", "is_event": "case value",
    },
    "knowing": {
        "cell_of": "case person world", "knows": "case person event", "all_know": "case event",
        "open_cells": "case", "open_cell": "case world", "is_open": "case world event",
        "chain": "case world other", "is_chain": "case world other value",
    },
    "rules": {
        "is_rule": "case value", "word_of": "case rule some", "words": "case rule", "word_in": "case rule person world",
    },
    "talks": {
        "after": "case rule person", "teaches": "case rule person", "talk": "case rule order",
        "talk_length": "case rule order", "end": "case rule order", "said": "case rule order world turns",
    },
    "endings": {
        "is_settled": "case rule order", "are_alike": "case rule order world", "unlike_worlds": "case rule order",
        "paper": "case rule order world", "is_paper": "case rule order world value",
    },
    "verdicts": {
        "keeps_together": "case rule", "splits": "case rule", "least_split": "case rule", "is_split": "case rule value",
        "quarrel": "case rule", "decide": "case rule",
    },
    "whispers": {
        "whispered": "case rule web", "whispers": "case rule web", "leads": "case web person other",
        "route": "case web person other", "deaf": "case web", "is_deaf": "case web value", "deaf_case": "case web",
    },
    "backs": {
        "fits": "case rule order heard", "rows": "case rule order turns", "told_cells": "case rule order",
        "are_told_apart": "case rule order value",
    },
    "halls": {"replayed": "case events"},
    "texts": {"format_case": "case", "read_case": "text"},
    "forms": {
        "is_share": "value", "is_form": "value", "word_for": "form share", "starts": "form", "words_of": "form",
        "first_apart": "first second",
    },
    "always": {
        "keeps_always": "form", "break_of": "form", "is_break": "form value", "case_of": "parts", "rule_of": "form case event",
    },
    "joins": {
        "least_classes": "form", "is_good": "form value", "read_by": "form classes", "joins": "form", "are_joins": "form value",
        "is_whole": "form value",
    },
}

METHODS = {
    ("cases", "Case"): {
        "__init__": "self worlds weights people", "cells": "self person", "weight": "self some",
        "with_cells": "self person cells", "__eq__": "self other",
    },
    ("halls", "Hall"): {
        "__init__": "self case", "say": "self person rule", "whisper": "self person hearer rule", "look": "self person event",
        "come": "self person cells", "leave": "self person", "undo": "self", "fork": "self", "heard": "self world",
        "possible": "self world",
    },
    ("forms", "BadForm"): {"__init__": "self value"}, ("forms", "BadShare"): {"__init__": "self value"},
    ("forms", "BadBreak"): {"__init__": "self value"}, ("forms", "BadClasses"): {"__init__": "self value"},
}

PROPERTIES = {("cases", "Case"): ["worlds", "weights", "names"], ("halls", "Hall"): ["case", "history"]}


def thing_in(file, name):
    return getattr(importlib.import_module("talkedalike." + file), name)


def parameters(function):
    """The names of the parameters, all of them such as may be passed by position and by name."""
    told = inspect.signature(function).parameters.values()
    assert all(each.kind == each.POSITIONAL_OR_KEYWORD and each.default is each.empty for each in told)
    return " ".join(each.name for each in told)


class InterfaceTest(unittest.TestCase):
    def test_functions(self):
        for file, functions in FUNCTIONS.items():
            for name, due in functions.items():
                with self.subTest(file=file, name=name):
                    function = thing_in(file, name)
                    self.assertTrue(inspect.isfunction(function))
                    self.assertEqual(function.__module__, "talkedalike." + file)
                    self.assertEqual(parameters(function), due)

    def test_methods_stand_in_the_class_itself(self):
        for (file, class_name), methods in METHODS.items():
            made = thing_in(file, class_name)
            self.assertTrue(inspect.isclass(made))
            self.assertEqual(made.__module__, "talkedalike." + file)
            for name, due in methods.items():
                with self.subTest(file=file, name=name):
                    self.assertEqual(parameters(vars(made)[name]), due)

    def test_properties_stand_in_the_class_itself(self):
        for (file, class_name), names in PROPERTIES.items():
            for name in names:
                self.assertIsInstance(vars(thing_in(file, class_name))[name], property)


if __name__ == "__main__":
    unittest.main()
