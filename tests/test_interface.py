"""The interface at the document's end, as far as it has landed; and [3]'s word that parameters are positional."""

import ast
import importlib
import pathlib
import unittest

PACKAGE = pathlib.Path(__file__).parent.parent / "staffhome"

CLASSES = {
    "errors": {
        "StaffError": None, "NoCommand": ["line"], "NoLine": ["fault"], "NoMove": ["index"],
        "NoText": ["line", "column"], "NoTrain": ["name"], "NoWay": ["reason"], "Nothing": [], "TooMany": ["most"],
        "Used": ["name"], "Wrong": ["place"],
    },
    "house": {"House": ["line", "standing"]},
    "kept": {"Kept": ["line", "standing"]},
    "desk": {"Desk": ["sections", "cards"]},
}

METHODS = {
    "house": {
        "House": {
            "ask": "name number", "standing": "", "under_way": "", "goers": "", "log": "", "twin": "",
        },
    },
    "kept": {
        "Kept": {
            "do": "row", "put": "name place rest", "take": "name", "longer": "name more", "lay": "key station",
            "undo": "", "redo": "", "line": "", "standing": "", "opened": "", "counts": "", "overfull": "", "held": "",
            "reason": "", "is_safe": "", "gone": "", "twin": "", "__eq__": "other",
        },
    },
    "desk": {"Desk": {"execute": "line", "kept": "", "done": ""}},
}

FUNCTIONS = {
    "forms": {
        "is_integer": "thing", "is_name": "thing", "is_line": "thing", "is_key": "line thing", "is_lot": "line thing",
        "is_part": "line thing", "are_trains": "line thing", "are_staffs": "line thing", "is_standing": "line thing",
        "is_move": "thing", "are_moves": "thing",
    },
    "lines": {
        "key_of": "one other", "section": "line one other", "sort_of": "line key", "keys_of": "line",
        "neighbours": "line station", "way": "line one other", "beyond": "line one other", "least_part": "line stations",
        "border": "line part", "inner": "line part", "cut": "line lot", "line_fault": "stations sections",
        "made_line": "stations sections",
    },
    "linetexts": {"line_text": "line", "read_line": "text"},
    "standings": {
        "place_of": "standing name", "rest_of": "standing name", "passes_of": "standing name", "names_of": "standing",
        "trains_at": "standing station", "staff_of": "standing key", "passes_left": "line standing",
        "needed": "line standing", "stops_left": "standing", "is_home": "standing",
        "with_staff": "standing key station", "with_train": "standing train", "without_train": "standing name",
    },
    "moves": {
        "next_pass": "standing name", "can_be_done": "line standing move", "moves_of": "line standing",
        "moved": "line standing move", "traced": "line standing row", "run": "line standing row",
        "is_row": "line standing thing",
    },
    "standingtexts": {"standing_text": "line standing", "read_standing": "line text"},
    "fits": {
        "counts": "line standing key", "does_fit": "line standing key", "overfull": "line standing",
        "turns": "line standing key", "staffs_at_home": "line standing",
    },
    "openruns": {
        "open_run": "line standing", "opening": "line standing", "run_alone": "line standing part",
        "comes_out": "line standing one other",
    },
    "held": {"is_held": "line standing thing", "held": "line standing", "held_back": "line standing"},
    "shut": {"is_shut": "line standing thing", "shut_part": "line standing", "shut_parts": "line standing"},
    "verdicts": {
        "reason": "line standing", "is_reason": "line standing thing", "is_safe": "line standing",
        "is_safe_slowly": "line standing", "reached": "line standing",
    },
    "plans": {
        "good_moves": "line standing", "refused_moves": "line standing", "plan": "line standing",
        "is_plan": "line standing thing", "staffs_behind": "line standing row",
    },
    "onetrain": {
        "gets_home": "line standing name", "is_bar": "line standing name thing", "far": "line standing name",
        "is_row_for": "line standing name thing", "bar": "line standing name", "row_for": "line standing name",
        "helpers": "line standing name",
    },
    "rounds": {
        "are_rounds": "standing", "go_on": "line standing", "is_round_row": "line standing thing",
        "round_row": "line standing", "waits": "row", "shares": "line standing",
    },
    "firstplaces": {
        "passes_from": "line trains key", "first_staffs": "line trains", "are_first_staffs": "line trains thing",
        "is_no_places": "line trains thing",
    },
    "whatif": {
        "staying": "line standing names", "stays": "line standing name", "spare_trains": "line standing",
        "needed_helpers": "line standing name", "longer": "line standing name more",
        "next_stops": "line standing name", "joined": "line standing name place rest",
        "promised": "line standing name place rest", "carried": "line standing key", "carries": "line standing",
        "with_sort": "line standing key sort", "mends": "line standing sort", "wider": "one other",
    },
    "drivers": {"driver_at_first": "name", "ask_of": "driver", "heard": "driver answer", "came": "driver"},
    "logs": {"whole_lines": "text", "reopened": "line standing text"},
    "journals": {
        "is_journal": "line standing thing", "is_home_journal": "line standing thing", "last_end": "journal",
        "idle": "journal", "most_abroad": "journal", "waits": "standing journal",
    },
    "days": {"play": "line standing times order lost", "latest_end": "line standing times lost"},
}


class Interface(unittest.TestCase):
    def defined(self, module):
        """The dict from the names that a file defines itself to their nodes."""
        rows = ast.parse((PACKAGE / f"{module}.py").read_text()).body
        return {row.name: row for row in rows if isinstance(row, (ast.FunctionDef, ast.ClassDef))}

    def parameters(self, node):
        arguments = node.args
        self.assertFalse(arguments.vararg or arguments.kwarg or arguments.kwonlyargs or arguments.defaults)
        return [argument.arg for argument in arguments.args]

    def test_functions(self):
        for module, functions in FUNCTIONS.items():
            defined = self.defined(module)
            for name, parameters in functions.items():
                self.assertIsInstance(defined[name], ast.FunctionDef)
                self.assertEqual(self.parameters(defined[name]), parameters.split(), (module, name))
                self.assertTrue(callable(getattr(importlib.import_module(f"staffhome.{module}"), name)))

    def test_classes(self):
        for module, classes in CLASSES.items():
            defined = self.defined(module)
            for name, parameters in classes.items():
                self.assertIsInstance(defined[name], ast.ClassDef)
                methods = {row.name: row for row in defined[name].body if isinstance(row, ast.FunctionDef)}
                if parameters is not None:
                    self.assertEqual(self.parameters(methods["__init__"])[1:], parameters, (module, name))

    def test_methods(self):
        for module, classes in METHODS.items():
            defined = self.defined(module)
            for name, methods in classes.items():
                found = {row.name: row for row in defined[name].body if isinstance(row, ast.FunctionDef)}
                for method, parameters in methods.items():
                    self.assertEqual(self.parameters(found[method])[1:], parameters.split(), (name, method))

    def test_all_modules_are_told(self):
        listed = set(CLASSES) | set(FUNCTIONS)
        self.assertEqual(listed, {path.stem for path in PACKAGE.glob("*.py")} - {"__init__"})

    def test_the_init_file_is_empty(self):
        self.assertEqual((PACKAGE / "__init__.py").read_bytes(), b"")


if __name__ == "__main__":
    unittest.main()
