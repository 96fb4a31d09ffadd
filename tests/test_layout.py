"""The outer form of the package's files: sizes and characters, and which file defines what of the interface."""

import ast
import pathlib
import unittest

PACKAGE = pathlib.Path(__file__).resolve().parent.parent / "topletter"

# For each file, the functions with their arguments, and the classes with their methods and properties.
INTERFACE = {
    "letters.py": {
        "arrival": "timetable, letter", "answer_tick": "timetable, letter", "wait": "timetable, letter",
        "never_answered": "timetable", "longest_wait": "timetable", "answered_in": "timetable, tick",
        "top_letters": "timetable, tick, count",
    },
    "chains.py": {"one_more": "timetable, tick", "one_less": "timetable, tick"},
    "orders.py": {
        "bottom_answer": "timetable, letter", "longest_bottom_wait": "timetable", "total_waiting": "timetable, count",
    },
    "planning.py": {
        "fewest_answers": "timetable, most, limit", "first_late": "timetable, most, *ticks",
        "first_unlike": "one, other",
    },
    "judging.py": {"first_log_error": "timetable, log"},
    "notation.py": {
        "format_timetable": "timetable", "parse_timetable": "text", "chart": "timetable, first, last",
    },
    "codec.py": {
        "pack_bytes": "values", "unpack_bytes": "data", "encode_timetable": "timetable", "decode_timetable": "data",
    },
}
CLASSES = {
    ("timetables.py", "Timetable"): {
        "__init__": "self, *rows", "simple": "cls, letters, answers", "with_answers": "self, *ticks", "rows": "self",
        "letters_per_round": "self", "growth": "self", "__len__": "self", "__getitem__": None, "__call__": "self, tick",
        "__bool__": "self", "__add__": None, "__eq__": None,
    },
    ("live.py", "LivePile"): {
        "__init__": "self, timetable", "pass_ticks": "self, count", "add": "self, count", "answer": "self, count",
        "take": "self, letter", "next_tick": "self", "lying": "self", "answered": "self", "history": "self",
        "undo": "self", "redo": "self", "apply": "self, *operations", "lying_after": "self, *operations",
        "replay": "cls, timetable, operations", "__len__": "self", "__contains__": None, "__call__": "self, letter",
        "__enter__": "self", "__exit__": None,
    },
    ("judging.py", "PileObserver"): {
        "__init__": "self, timetable", "first_rows": "self", "observations": "self", "see_height": "self, tick, height",
        "see_answered": "self, tick, *letters", "from_log": "cls, timetable, observations",
        "possible_heights": "self, tick", "best_tick": "self, limit",
    },
}


def functions_in(body):
    """The functions that are defined right here, each with its arguments."""
    return {node.name: ast.unparse(node.args) for node in body if isinstance(node, ast.FunctionDef)}


class Layout(unittest.TestCase):
    def setUp(self):
        self.texts = {path.name: path.read_text("utf-8") for path in PACKAGE.glob("*.py")}

    def test_the_folder_contains_only_python_files(self):
        names = {path.name for path in PACKAGE.iterdir() if path.name != "__pycache__"}
        self.assertEqual(names, set(self.texts))
        self.assertIn("__init__.py", names)

    def test_characters_and_sizes(self):
        for name, text in self.texts.items():
            with self.subTest(name=name):
                self.assertEqual([mark for mark in text if mark != "\n" and not " " <= mark <= "~"], [])
                self.assertLessEqual(len(text.splitlines()), 399)
                self.assertLessEqual(max(len(line) for line in text.splitlines()), 120)

    def test_functions_have_at_most_40_lines(self):
        for name, text in self.texts.items():
            for node in ast.walk(ast.parse(text)):
                if isinstance(node, ast.FunctionDef):
                    with self.subTest(name=name, function=node.name):
                        self.assertLessEqual(node.end_lineno - node.lineno + 1, 40)

    def test_each_file_defines_its_functions_of_the_interface(self):
        for name, functions in INTERFACE.items():
            found = functions_in(ast.parse(self.texts[name]).body)
            self.assertLessEqual(functions.items(), found.items())

    def test_each_class_of_the_interface_defines_its_methods_itself(self):
        for (name, title), methods in CLASSES.items():
            classes = {node.name: node for node in ast.parse(self.texts[name]).body if isinstance(node, ast.ClassDef)}
            found = functions_in(classes[title].body)
            for method, arguments in methods.items():
                self.assertIn(method, found)
                if arguments is not None:
                    self.assertEqual(found[method], arguments)


if __name__ == "__main__":
    unittest.main()
