"""The names of the interface, the names of their arguments, and the files in which they are defined."""
import importlib
import inspect
import unittest

FUNCTIONS = {
    "numbers": {
        "is_field": "p", "check_field": "p", "is_number": "p x", "check_number": "p x", "number": "p a b=1",
        "plus": "p x y", "minus": "p x y", "times": "p x y", "over": "p x y", "number_text": "p x",
        "read_number": "p text",
    },
    "series": {
        "added_series": "one other", "multiplied_series": "one other", "put_into": "one other", "undoing": "series",
        "turned_signs": "series",
    },
    "trees": {
        "is_kinds": "kinds", "check_kinds": "kinds", "is_tree": "kinds tree", "check_tree": "kinds tree",
        "size": "kinds tree", "width": "kinds tree", "paths": "kinds tree", "is_before": "kinds one other",
        "counted": "kinds size width", "listed": "kinds size width", "index_of": "kinds tree",
        "tree_at": "kinds size width index",
    },
    "texts": {"bracket_text": "kinds tree", "read_tree": "kinds text"},
    "grafting": {
        "graft": "kinds tree at other", "graft_all": "kinds tree trees", "top": "kinds tree",
        "part_at": "kinds tree letter", "context_of": "kinds tree letter", "mirrored": "kinds tree",
    },
    "patterns": {
        "places": "kinds tree pattern", "hanging": "kinds tree pattern letter",
        "put_for": "kinds tree pattern letter other", "avoids": "kinds tree patterns",
    },
}


def told(function):
    words = []
    for name, parameter in inspect.signature(function).parameters.items():
        plain = parameter.default is inspect.Parameter.empty
        words.append(name if plain else f"{name}={parameter.default!r}")
    return " ".join(words)


class Interface(unittest.TestCase):
    def test_functions(self):
        for module, functions in FUNCTIONS.items():
            loaded = importlib.import_module("graftworth." + module)
            for name, arguments in functions.items():
                function = getattr(loaded, name)
                self.assertEqual(told(function), arguments, name)
                self.assertEqual(function.__module__, "graftworth." + module, name)
