"""The names of the interface, the names of their arguments, and the files in which they are defined."""
import importlib
import inspect
import unittest

FUNCTIONS = {
    "numbers": {
        "is_field": "p", "check_field": "p", "is_number": "p x", "check_number": "p x", "number": "p a b=1",
        "plus": "p x y", "minus": "p x y", "times": "p x y", "over": "p x y", "number_text": "p x",
        "read_number": "p text",
    },
    "series": {
        "added_series": "one other", "multiplied_series": "one other", "put_into": "one other", "undoing": "series",
        "turned_signs": "series",
    },
    "trees": {
        "is_kinds": "kinds", "check_kinds": "kinds", "is_tree": "kinds tree", "check_tree": "kinds tree",
        "size": "kinds tree", "width": "kinds tree", "paths": "kinds tree", "is_before": "kinds one other",
        "counted": "kinds size width", "listed": "kinds size width", "index_of": "kinds tree",
        "tree_at": "kinds size width index",
    },
    "texts": {"bracket_text": "kinds tree", "read_tree": "kinds text"},
    "grafting": {
        "graft": "kinds tree at other", "graft_all": "kinds tree trees", "top": "kinds tree",
        "part_at": "kinds tree letter", "context_of": "kinds tree letter", "mirrored": "kinds tree",
    },
    "patterns": {
        "places": "kinds tree pattern", "hanging": "kinds tree pattern letter",
        "put_for": "kinds tree pattern letter other", "avoids": "kinds tree patterns",
    },
    "sums": {
        "Sum": "p kinds size width terms", "zero_sum": "p kinds size width", "text_of_sum": "one", "read_sum": "text",
    },
    "books": {
        "Book": "p kinds relations", "check_placing": "book placing", "placed": "book placing",
        "placings": "book size width", "combined": "book size width pairs", "text_of_book": "book", "read_book": "text",
    },
    "linear": {
        "is_matrix": "p matrix", "echelon": "p matrix", "rank": "p matrix", "kernel": "p matrix",
        "solution": "p matrix right", "clash": "p matrix right",
    },
    "alike": {
        "kept_trees": "book size width", "dimension": "book size width", "plain": "book one", "is_lost": "book one",
        "are_alike": "book one other", "decide": "book one other", "is_row": "book size width row",
        "is_answer": "book one other answer",
    },
    "steps": {
        "heads": "book", "standings": "book tree", "is_low": "book tree", "low_trees": "book size width",
        "first_step": "book one", "step_down": "book one placing", "down": "book one", "walked": "book one chain",
    },
    "overlaps": {
        "overlaps": "book", "difference": "book overlap", "first_clash": "book size", "is_complete": "book size",
        "tidied": "book", "completed": "book size",
    },
    "counts": {
        "by_width": "kinds most", "depth": "kinds tree", "crown": "kinds tree most",
        "avoiding": "kinds patterns size width", "avoiding_number": "kinds patterns size width",
        "avoiding_by_width": "kinds patterns most",
    },
    "duals": {
        "is_square": "book", "pairing": "one other", "dual": "book", "is_linked": "book tree", "linked_number": "book size",
        "dimensions": "book most", "undo_one_another": "one other",
    },
    "worlds": {
        "is_world": "world", "check_world": "world", "unit": "world index", "value": "world tree vectors",
        "sum_value": "world one vectors", "table": "world tree", "obeys": "world book", "names": "book width",
        "told_world": "book width", "told_value": "book one",
    },
    "leadings": {
        "Leading": "p kinds others images", "calm": "p kinds", "first_wrong": "leading book other",
        "is_right": "leading book other", "gone": "leading other size width",
    },
    "certificates": {
        "shown": "p kinds relations terms others answer", "is_chain": "p kinds relations terms chain end",
        "comes_to_zero": "p kinds relations overlap chain", "shows_complete": "p kinds relations size papers",
    },
    "witnesses": {
        "is_told_world": "world", "obeys_told": "p kinds relations world", "parts_told": "world terms others vectors",
    },
    "lines": {"words_of": "line", "is_name": "word", "number_in": "word"},
    "desk": {"Desk": ""},
    "journal": {"Journal": "", "attempt": "journal lines keep=False", "resume": "text"},
}
METHODS = {
    ("sums", "Sum"): {
        "terms": "self", "at": "self tree", "head": "self", "scaled": "self number", "grafted": "self at other",
        "under": "self tree at", "with_all": "self trees", "mirrored": "self", "__add__": "self other",
        "__sub__": "self other", "__neg__": "self", "__eq__": "self other", "__len__": "self", "__bool__": "self",
    },
    ("books", "Book"): {"relations": "self", "mirrored": "self", "__eq__": "self other", "__len__": "self"},
    ("leadings", "Leading"): {
        "images": "self", "step": "self", "image": "self one", "behind": "self first", "__eq__": "self other",
    },
    ("desk", "Desk"): {"answer": "self line", "answers": "self lines", "names": "self", "thing": "self name"},
    ("journal", "Journal"): {
        "answer": "self line", "record": "self", "lines": "self", "keep": "self", "__enter__": "self",
        "__exit__": "self kind value trace",
    },
}


def told(function):
    words = []
    for name, parameter in inspect.signature(function).parameters.items():
        plain = parameter.default is inspect.Parameter.empty
        words.append(name if plain else f"{name}={parameter.default!r}")
    return " ".join(words)


class Interface(unittest.TestCase):
    def test_functions(self):
        for module, functions in FUNCTIONS.items():
            loaded = importlib.import_module("graftworth." + module)
            for name, arguments in functions.items():
                function = getattr(loaded, name)
                self.assertEqual(told(function), arguments, name)
                self.assertEqual(function.__module__, "graftworth." + module, name)

    def test_methods(self):
        for (module, name), methods in METHODS.items():
            found = getattr(importlib.import_module("graftworth." + module), name)
            for method, arguments in methods.items():
                self.assertIn(method, vars(found), name)
                self.assertEqual(told(vars(found)[method]), arguments, (name, method))
