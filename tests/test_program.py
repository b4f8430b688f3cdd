"""What the document promises over the whole program: arguments stay as they are, and results have lists of their own."""
import ast
import importlib
import inspect
import pathlib
import unittest

from graftworth.books import Book, read_book, text_of_book
from graftworth.errors import GraftError
from graftworth.leadings import Leading
from graftworth.sums import Sum, read_sum, text_of_sum
import support
from test_interface import FUNCTIONS, METHODS

FOLDER = pathlib.Path(__file__).resolve().parent.parent / "graftworth"
ERRORS = [
    "NotNumber", "NotKinds", "NotTree", "NotSum", "NotBook", "NotPlacing", "NotMatrix", "NotWorld", "NotLeading", "BadNumber",
    "NoAnswer", "TooLarge", "OpenTrial", "Malformed", "BadJournal",
]
ONE, TWO = (1, 1), (2, 1)
PLACING = (0, ".", 0, (".", ".", "."))
ABOVE = (0, "a..", 1, (".", ".", "."))
CHAIN = [(0, ".", 0, (".", "a..", ".")), (0, ".", 0, (".", ".", "a..")), ABOVE]
OVERLAP = ("aaa....", (0, ".", 0, ("a..", ".", ".")), (0, "a..", 0, (".", ".", ".")))
WORLD = (0, (2,), 3, ((((0, 1), ((2, ONE),)),),))
RELATIONS = [[("aa...", ONE), ("a.a..", (-1, 1))]]
VECTORS = [[ONE, TWO, (0, 1)], [(0, 1), ONE, ONE]]
MATRIX = [[ONE, TWO, (3, 1)], [TWO, (4, 1), (7, 1)]]


def things():
    """Objects to hand in, made anew."""
    book = read_book("0 2 ; 2 3 -1 a.a.. 1 aa...")
    left, right = read_sum("0 2 2 3 1 aa..."), read_sum("0 2 2 3 3 a.a..")
    leading = Leading(0, (2,), (2,), [read_sum("0 2 1 2 2 a..")])
    return book, left, right, leading


def calls():
    """For each function with lists among its arguments or its results, arguments for which it has a result."""
    book, left, right, leading = things()
    difference = left - right.scaled((1, 3))
    return {
        "series": [
            ("added_series", [1, 2], [3, 4]), ("multiplied_series", [1, 2], [3, 4]), ("put_into", [1, 2], [3, 4]), ("put_into", [1], [1]),
            ("undoing", [1, -1, 0, 0]), ("turned_signs", [1, 2, 3]), ("turned_signs", [1]),
        ],
        "trees": [("paths", (2, 2), "ab..."), ("listed", (2,), 2, 3), ("listed", (2,), 0, 2)],
        "grafting": [("graft_all", (2,), "a..", [".", "a.."]), ("top", (2,), "aa...")],
        "patterns": [
            ("places", (2,), "aa...", "a.."), ("hanging", (2,), "aaa....", "aa...", 0), ("avoids", (2,), "aa...", ["a.a..", "aaa...."]),
        ],
        "sums": [
            ("Sum", 0, (2,), 2, 3, [("aa...", ONE), ("a.a..", TWO), ("aa...", ONE)]), ("zero_sum", 0, (2,), 2, 3),
        ],
        "books": [
            ("Book", 0, (2,), [left, right]), ("placings", book, 3, 4), ("placed", book, ABOVE),
            ("combined", book, 2, 3, [(TWO, PLACING), (ONE, PLACING)]),
        ],
        "linear": [
            ("is_matrix", 0, MATRIX), ("echelon", 0, MATRIX), ("echelon", 0, [[ONE, (0, 1)], [(0, 1), ONE]]), ("rank", 0, MATRIX), ("kernel", 0, MATRIX),
            ("solution", 0, MATRIX, [ONE, TWO]), ("clash", 0, MATRIX, [ONE, TWO]), ("clash", 0, [[ONE], [ONE]], [ONE, TWO]), ("echelon", 0, []),
            ("solution", 0, [[ONE, (0, 1)], [(0, 1), ONE]], [ONE, TWO]),
        ],
        "alike": [
            ("kept_trees", book, 3, 4), ("plain", book, left), ("decide", book, left, right), ("decide", book, left, left - difference),
            ("is_row", book, 2, 3, [ONE, ONE]), ("is_answer", book, left, left - difference, ("alike", [(ONE, PLACING)])),
            ("is_answer", book, left, right, ("apart", [ONE, ONE])),
        ],
        "steps": [
            ("heads", book), ("standings", book, "aaa...."), ("low_trees", book, 3, 4), ("down", book, read_sum("0 2 3 4 1 aaa....")), ("down", book, right),
            ("walked", book, read_sum("0 2 3 4 1 a.aa..."), [ABOVE]), ("walked", book, left, []),
        ],
        "overlaps": [("overlaps", book), ("difference", book, OVERLAP), ("tidied", book), ("completed", book, 3), ("first_clash", book, 3)],
        "counts": [
            ("by_width", (2, 2), 4), ("avoiding", (2,), ["aa..."], 3, 4), ("avoiding_number", (2,), ["aa...", "a.a.."], 3, 4), ("avoiding", (2,), [], 3, 4),
            ("avoiding_by_width", (2,), ["aa.a..a.."], 5),
        ],
        "duals": [("dual", book), ("dimensions", book, 4), ("undo_one_another", [1, 1], [1, 1]), ("pairing", left, right)],
        "worlds": [
            ("unit", WORLD, 1), ("value", WORLD, "a..", VECTORS), ("value", WORLD, ".", VECTORS[:1]), ("sum_value", WORLD, read_sum("0 2 1 2 1 a.."), VECTORS),
            ("table", WORLD, "a.."), ("names", book, 3), ("told_world", book, 3), ("told_value", book, left), ("obeys", WORLD, book),
        ],
        "leadings": [
            ("Leading", 0, (2, 2), (2,), [read_sum("0 2 1 2 1 a..")] * 2), ("calm", 0, (2,)), ("gone", leading, book, 2, 3),
            ("gone", leading, book, 2, 2), ("first_wrong", leading, book, book),
        ],
        "certificates": [
            ("shown", 0, (2,), RELATIONS, [("aa...", ONE)], [("a.a..", ONE)], ("alike", [(ONE, PLACING)])),
            ("shown", 0, (2,), RELATIONS, [("aa...", ONE)], [("a.a..", TWO)], ("apart", [ONE, ONE])),
            ("is_chain", 0, (2,), RELATIONS, [("aa...", ONE)], [PLACING], [("a.a..", ONE)]),
            ("comes_to_zero", 0, (2,), RELATIONS, OVERLAP, CHAIN), ("shows_complete", 0, (2,), RELATIONS, 3, [(OVERLAP, CHAIN)]),
        ],
        "witnesses": [
            ("is_told_world", WORLD), ("obeys_told", 0, (2,), RELATIONS, WORLD), ("parts_told", WORLD, [("a..", ONE)], [("a..", TWO)], VECTORS),
        ],
        "lines": [("words_of", "a b c")],
    }


def plainly(told):
    """A value as plain tuples and texts, to compare it with itself at another time."""
    if isinstance(told, Sum):
        return ("sum", text_of_sum(told))
    if isinstance(told, Book):
        return ("book", text_of_book(told))
    if isinstance(told, Leading):
        return ("leading", told.p, told.kinds, told.others, plainly(told.images()))
    if isinstance(told, (list, tuple)):
        return (type(told).__name__,) + tuple(plainly(part) for part in told)
    return told


def lists_in(told):
    if isinstance(told, (list, tuple)):
        found = [told] if isinstance(told, list) else []
        return found + [inner for part in told for inner in lists_in(part)]
    return []


def spoilt(told):
    """Empties all lists of a value."""
    for inner in lists_in(told):
        inner.clear()


class Functions(unittest.TestCase):
    def test_arguments_stay(self):
        for module, some in calls().items():
            for name, *arguments in some:
                before = plainly(arguments)
                getattr(importlib.import_module("graftworth." + module), name)(*arguments)
                self.assertEqual(plainly(arguments), before, name)

    def test_results_share_no_lists(self):
        for module, some in calls().items():
            for name, *arguments in some:
                function = getattr(importlib.import_module("graftworth." + module), name)
                first = function(*arguments)
                held = lists_in(first)
                self.assertEqual(len({id(inner) for inner in held}), len(held), name)
                shared = {id(inner) for inner in lists_in(arguments)}
                self.assertFalse(shared & {id(inner) for inner in held}, name)
                due = plainly(first)
                spoilt(first)
                # What has become of the first result changes neither the arguments nor a second one.
                self.assertEqual(plainly(function(*arguments)), due, name)

    def test_lists_that_are_handed_in_may_change(self):
        for module, some in calls().items():
            for name, *arguments in some:
                given = copied(arguments)
                made = getattr(importlib.import_module("graftworth." + module), name)(*given)
                due = plainly(made)
                spoilt(given)
                self.assertEqual(plainly(made), due, name)

    def test_methods(self):
        book, left, right, leading = things()
        for thing, methods in (
            (left, [("terms",), ("head",), ("scaled", TWO), ("grafted", 0, right), ("under", "a..", 1), ("with_all", [".", "a..", "."]), ("mirrored",)]),
            (book, [("relations",), ("mirrored",)]), (leading, [("images",), ("image", left), ("behind", leading)]),
        ):
            for name, *arguments in methods:
                before = plainly([thing] + arguments)
                made = getattr(thing, name)(*arguments)
                self.assertEqual(plainly([thing] + arguments), before)
                spoilt(made)
                self.assertEqual(plainly([thing] + arguments), before)
        self.assertEqual(text_of_sum(left + right), "0 2 2 3 3 a.a.. 1 aa...")
        self.assertEqual((text_of_sum(left - right), text_of_sum(-left)), ("0 2 2 3 -3 a.a.. 1 aa...", "0 2 2 3 -1 aa..."))
        self.assertEqual((text_of_sum(left), text_of_sum(right)), ("0 2 2 3 1 aa...", "0 2 2 3 3 a.a.."))

    def test_all_modules_with_lists_are_called(self):
        # The desk and the journal are tested on their own; numbers and texts take and give no lists.
        self.assertEqual(set(FUNCTIONS) - set(calls()), {"numbers", "texts", "desk", "journal"})


def copied(told):
    """The same value with lists of its own."""
    if isinstance(told, (list, tuple)):
        return type(told)([copied(part) for part in told])
    return told


class Errors(unittest.TestCase):
    def test_each_is_directly_below(self):
        module = importlib.import_module("graftworth.errors")
        self.assertEqual(GraftError.__bases__, (ValueError,))
        for name in ERRORS:
            found = getattr(module, name)
            self.assertEqual(found.__bases__, (GraftError,), name)
            self.assertEqual(found.__module__, "graftworth.errors")
        others = [name for name, found in vars(module).items() if inspect.isclass(found) and name not in ERRORS + ["GraftError"]]
        self.assertEqual(others, [])

    def test_no_others_in_the_program(self):
        for path in sorted(FOLDER.glob("*.py")):
            for node in ast.walk(ast.parse(path.read_text(encoding="utf-8"))):
                if isinstance(node, ast.Raise):
                    self.assertIn(node.exc.func.id, ERRORS, (path, node.lineno))


class Modules(unittest.TestCase):
    def test_all_names_are_where_the_interface_lists_them(self):
        for module, functions in FUNCTIONS.items():
            tree = ast.parse((FOLDER / (module + ".py")).read_text(encoding="utf-8"))
            defined = {node.name for node in tree.body if isinstance(node, (ast.FunctionDef, ast.ClassDef))}
            self.assertLessEqual(set(functions), defined, module)
        for (module, name), methods in METHODS.items():
            tree = ast.parse((FOLDER / (module + ".py")).read_text(encoding="utf-8"))
            body = next(node.body for node in tree.body if isinstance(node, ast.ClassDef) and node.name == name)
            self.assertLessEqual(set(methods), {node.name for node in body if isinstance(node, ast.FunctionDef)}, name)

    def test_the_checker_imports_the_errors_and_itself_alone(self):
        own = {"certificates", "witnesses", "check_books", "check_numbers", "check_trees"}
        for name in own:
            tree = ast.parse((FOLDER / (name + ".py")).read_text(encoding="utf-8"))
            for node in ast.walk(tree):
                self.assertNotIsInstance(node, ast.Import)
                if isinstance(node, ast.ImportFrom):
                    self.assertIn(node.module, {"graftworth." + other for other in own | {"errors"}})

    def test_the_library(self):
        """No clock, no random numbers, no files: two modules of the library alone are imported."""
        for path in sorted(FOLDER.glob("*.py")):
            for node in ast.walk(ast.parse(path.read_text(encoding="utf-8"))):
                if isinstance(node, ast.ImportFrom) and not node.module.startswith("graftworth."):
                    self.assertIn(node.module, ("math", "heapq"))

    def test_fields_are_set_when_objects_are_made(self):
        book, left, _, leading = things()
        self.assertEqual((left.p, left.kinds, left.size, left.width), (0, (2,), 2, 3))
        self.assertEqual((book.p, book.kinds), (0, (2,)))
        self.assertEqual((leading.p, leading.kinds, leading.others), (0, (2,), (2,)))
        errors = importlib.import_module("graftworth.errors")
        self.assertEqual((errors.Malformed(3).at, errors.BadJournal(4).row), (3, 4))
        self.assertEqual(len(support.FIELDS), 12)
