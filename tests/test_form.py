"""The interface of DOC.md as far as it has landed, and rules of LANGUAGE.md that can be seen from outside."""

import ast
import importlib
import inspect
import re
import unittest
from pathlib import Path

PACKAGE = Path(__file__).resolve().parent.parent / "deedpiles"
FILES = sorted(path for path in PACKAGE.rglob("*") if path.is_file() and "__pycache__" not in path.parts)

INTERFACE = {
    "deedpiles.fields": {"need_field": ["field"], "touching": ["field", "name"]},
    "deedpiles.piles": {
        "need_script": ["field", "deeds"], "is_pile": ["field", "deeds"], "least_pile": ["field", "deeds"],
        "length": ["field", "deeds"], "fronts": ["field", "deeds"], "ends": ["field", "deeds"],
        "are_alike": ["field", "one", "other"], "joined": ["field", "one", "other"], "taken_back": ["field", "deeds"],
    },
    "deedpiles.lower": {
        "is_lower": ["field", "one", "other"], "common": ["field", "one", "other"], "over_both": ["field", "one", "other"],
    },
    "deedpiles.moves": {"moved": ["field", "deeds", "moves"], "road": ["field", "deeds"]},
    "deedpiles.yards": {
        "need_yard": ["field", "yard"], "led": ["field", "yard", "deeds", "spot"],
        "do_alike_in": ["field", "yard", "one", "other"], "yard_of": ["field", "deeds"],
    },
    "deedpiles.papers": {"paper": ["field", "one", "other"], "check_paper": ["field", "one", "other", "paper"]},
    "deedpiles.rounds": {
        "is_round": ["field", "deeds"], "core": ["field", "deeds"], "split": ["field", "deeds"],
        "is_split": ["field", "deeds", "value"],
    },
    "deedpiles.turns": {
        "turn_form": ["field", "deeds"], "are_turns": ["field", "one", "other"], "turner": ["field", "one", "other"],
        "does_turn": ["field", "one", "other", "value"], "turns_of": ["field", "deeds"],
    },
    "deedpiles.powers": {
        "greatest_root": ["field", "deeds"], "nth_root": ["field", "deeds", "number"], "power": ["field", "deeds", "number"],
        "power_length": ["field", "deeds", "number"], "some_times": ["field", "one", "other"],
        "are_powers_alike": ["field", "one", "number", "other", "times"],
    },
    "deedpiles.keepers": {
        "do_change": ["field", "one", "other"], "free_names": ["field", "deeds"], "kept_as": ["field", "deeds", "other"],
    },
    "deedpiles.writings": {
        "many_writings": ["field", "deeds"], "writing_at": ["field", "deeds", "number"], "all_writings": ["field", "deeds"],
        "is_writing": ["field", "row"], "writing_number": ["field", "row"],
    },
    "deedpiles.middles": {
        "distance": ["field", "one", "other"], "is_between": ["field", "one", "other", "far"],
        "middle_of": ["field", "one", "two", "three"],
    },
    "deedpiles.toldback": {
        "fields_of": ["names", "claims"], "told_pairs": ["names", "claims"], "quarrel": ["names", "claims"],
    },
    "deedpiles.values": {"Pile": ["field", "deeds"]},
    "deedpiles.sheet": {"Sheet": ["field"], "under": ["manager", "deed"]},
    "deedpiles.texts": {
        "field_text": ["field"], "script_text": ["field", "deeds"], "read_field": ["text"], "read_script": ["field", "text"],
    },
    "deedpiles.desk": {"Desk": ["text"]},
    "deedpiles.errors": {
        "BadField": ["part"], "BadScript": ["place"], "BadMoves": ["place"], "BadYard": ["part"], "BadSpot": ["value"],
        "BadPaper": ["word"], "BadNumber": ["value"], "BadClaims": ["place"], "BadText": ["line", "word"],
        "Unlike": ["value"], "Held": ["value"], "TooGreat": ["most"],
    },
}

# For each class its methods with their parameters, and its properties, which have None in the place of these.
METHODS = {
    "deedpiles.values.Pile": {
        "field": None, "steps": None, "length": None, "many": ["times"], "is_lower": ["other"], "over_both": ["other"],
        "distance": ["other"], "middle": ["other", "third"], "__len__": [], "__getitem__": ["at"], "__contains__": ["x"],
        "__eq__": ["other"], "__mul__": ["other"], "__and__": ["other"], "__invert__": [], "__iter__": [],
    },
    "deedpiles.sheet.Sheet": {
        "field": None, "row": None, "steps": None, "least": [], "do": ["step"], "free": [], "ahead_of": ["number"],
        "take_back": ["number"], "take_all": ["number"], "undo": [], "redo": [], "copy": [], "trial": [], "__len__": [],
        "__contains__": ["x"], "__eq__": ["other"],
    },
    "deedpiles.desk.Desk": {"sheet": None, "say": ["line"]},
}
# What a class may define besides, by L5; no error class has any of these but __init__.
SPECIAL = """__init__ __eq__ __len__ __enter__ __exit__ __iter__ __getitem__ __contains__ __mul__ __and__ __invert__""".split()

BUILTINS = """len range enumerate zip min max sum abs sorted reversed int str bool bytes list tuple dict set frozenset
    isinstance ord repr any all divmod Exception ValueError TypeError KeyError IndexError LookupError ZeroDivisionError
    ArithmeticError OverflowError RuntimeError NotImplementedError AttributeError StopIteration NotImplemented iter next
    map super property staticmethod classmethod object""".split()
ALL_BUILTINS = set(dir(__import__("builtins")))
BARRED_WORDS = """type typing typing_extensions enum Enum IntEnum StrEnum Flag IntFlag Generic Protocol ABC ABCMeta
    namedtuple NamedTuple TypedDict TYPE_CHECKING abstractmethod""".split()
BARRED_NODES = (
    ast.Global, ast.AsyncFunctionDef, ast.AsyncFor, ast.AsyncWith, ast.Await, ast.Import, ast.Div, ast.MatMult,
    ast.GeneratorExp, ast.Lambda, ast.Starred,
)


def text_of(path):
    return path.read_text(encoding="utf-8")


def nodes_of(path):
    return list(ast.walk(ast.parse(text_of(path))))


class InterfaceTests(unittest.TestCase):
    def test_names_and_parameters(self):
        for module, members in INTERFACE.items():
            for name, parameters in members.items():
                member = getattr(importlib.import_module(module), name)
                self.assertEqual(list(inspect.signature(member).parameters), parameters, name)
                self.assertEqual(member.__module__, module)

    def test_methods_and_properties(self):
        for path, members in METHODS.items():
            module, _, kind = path.rpartition(".")
            here = vars(getattr(importlib.import_module(module), kind))
            for name, parameters in members.items():
                if parameters is None:
                    self.assertIsInstance(here[name], property)
                    self.assertIsNone(here[name].fset)
                else:
                    self.assertEqual(list(inspect.signature(here[name]).parameters), ["self"] + parameters, name)

    def test_defined_in_their_files(self):
        for module, members in INTERFACE.items():
            body = ast.parse(text_of(PACKAGE / f"{module.partition('.')[2]}.py")).body
            defined = {node.name for node in body if isinstance(node, (ast.FunctionDef, ast.ClassDef))}
            self.assertLessEqual(set(members), defined)


class LanguageTests(unittest.TestCase):
    def test_files(self):
        for path in FILES:
            self.assertTrue(re.fullmatch("[a-z0-9_]+[.]py", path.name), path)
            self.assertTrue((path.parent / "__init__.py").is_file(), path)
        self.assertIn(PACKAGE / "__init__.py", FILES)

    def test_characters_and_sizes(self):
        for path in FILES:
            lines = text_of(path).splitlines()
            self.assertLessEqual(len(lines), 399, path)
            self.assertLessEqual(max(map(len, lines), default=0), 120, path)
            self.assertTrue(re.fullmatch("[ -~\n]*", text_of(path)), path)
            for node in nodes_of(path):
                if isinstance(node, ast.FunctionDef):
                    self.assertLessEqual(node.end_lineno - node.lineno + 1, 40, node.name)

    def test_imports(self):
        for path in FILES:
            for node in nodes_of(path):
                if isinstance(node, ast.ImportFrom):
                    self.assertEqual(node.level, 0)
                    self.assertTrue(node.module.startswith("deedpiles.") or node.module in ("heapq", "math", "itertools"))
                    self.assertTrue(all(alias.asname is None and alias.name != "*" for alias in node.names), path)

    def test_statements_and_expressions(self):
        for path in FILES:
            for node in nodes_of(path):
                self.assertNotIsInstance(node, BARRED_NODES, f"{path}:{getattr(node, 'lineno', 0)}")
                if isinstance(node, ast.Constant):
                    self.assertNotIsInstance(node.value, float)
                    self.assertFalse(isinstance(node.value, str) and "%" in node.value, path)

    def test_names(self):
        for path in FILES:
            for node in nodes_of(path):
                if isinstance(node, ast.Name) and isinstance(node.ctx, ast.Load) and node.id in ALL_BUILTINS:
                    self.assertIn(node.id, BUILTINS, path)
                bound = node.id if isinstance(node, ast.Name) and isinstance(node.ctx, ast.Store) else None
                bound = node.arg if isinstance(node, ast.arg) else bound
                bound = node.name if isinstance(node, (ast.FunctionDef, ast.ClassDef)) else bound
                self.assertNotIn(bound, ALL_BUILTINS, path)

    def test_no_name_of_an_import_or_a_class_is_bound_again(self):
        for path in FILES:
            nodes = nodes_of(path)
            taken = [alias.name for node in nodes if isinstance(node, ast.ImportFrom) for alias in node.names]
            taken += [node.name for node in nodes if isinstance(node, ast.ClassDef)]
            bound = [node.id for node in nodes if isinstance(node, ast.Name) and not isinstance(node.ctx, ast.Load)]
            bound += [node.arg for node in nodes if isinstance(node, ast.arg)]
            bound += [node.name for node in nodes if isinstance(node, ast.FunctionDef)]
            self.assertEqual(len(taken), len(set(taken)), path)
            self.assertFalse(set(taken) & set(bound), path)

    def test_imports_are_used_and_acyclic(self):
        modules = {f"deedpiles.{path.stem}": path for path in FILES if path.stem != "__init__"}
        needed = {}
        for module, path in modules.items():
            imports = [node for node in nodes_of(path) if isinstance(node, ast.ImportFrom)]
            needed[module] = {node.module for node in imports if node.module in modules}
            read = {node.id for node in nodes_of(path) if isinstance(node, ast.Name)}
            self.assertLessEqual({alias.name for node in imports for alias in node.names}, read, path)
        while needed:
            ready = [module for module in needed if not needed[module] & set(needed)]
            self.assertTrue(ready, needed)
            needed = {module: needed[module] for module in needed if module not in ready}

    def test_classes(self):
        for path in FILES:
            for kind in [node for node in nodes_of(path) if isinstance(node, ast.ClassDef)]:
                methods = {node.name: node for node in kind.body if isinstance(node, ast.FunctionDef)}
                special = [name for name in methods if name.startswith("__")]
                self.assertLessEqual(set(special), {"__init__"} if path.stem == "errors" else set(SPECIAL), kind.name)
                self.assertNotIn("keys", methods)
                if "__getitem__" in methods:
                    self.assertIsInstance(methods["__iter__"].body[-1], ast.Raise)
                for node in methods.values():
                    self.assertIn([ast.unparse(one) for one in node.decorator_list], ([], ["property"]))

    def test_trials_end_by_assignments_alone(self):
        for path in FILES:
            for node in nodes_of(path):
                if isinstance(node, ast.FunctionDef) and node.name == "__exit__":
                    for row in node.body:
                        self.assertIsInstance(row, ast.Assign)
                        self.assertTrue(all(isinstance(part, ast.Attribute) for part in row.targets + [row.value]))

    def test_barred_words(self):
        for path in FILES:
            for node in nodes_of(path):
                words = [value for _, value in ast.iter_fields(node) if isinstance(value, str)]
                for word in words:
                    self.assertNotIn(word, BARRED_WORDS, path)


if __name__ == "__main__":
    unittest.main()
