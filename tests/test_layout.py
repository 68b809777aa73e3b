"""The interface stands where the document lists it, and the files keep to their sizes and characters."""

import ast
import pathlib
import unittest

PACKAGE = pathlib.Path(__file__).resolve().parent.parent / "pourparler"
ERRORS = {"Refused": None, "Malformed": ["at"], "Unknown": ["name"], "Clashing": ["name"], "Oversized": ["limit"],
          "Misused": ["why"], "Mistaken": ["at", "why"]}
# These are passed by name only, and have default values.
PLAN = ["schedule", "falls", "replacements", "limit"]
FUNCTIONS = {
    "lexer": {"tokens": ["text"], "is_name": ["value"]},
    "parser": {"parse": ["text"], "parse_talk": ["text"], "parse_expression": ["text"]},
    "program": {"program_of": ["text"]},
    "printer": {
        "show_talk": ["talk"], "show_kind": ["kind"], "show_expression": ["e"], "show_definition": ["definition"],
        "show_program": ["program"], "bare": ["tree"]},
    "talks": {
        "check_table": ["table"], "dual": ["talk"], "dual_kind": ["kind"], "head": ["table", "talk"],
        "row_of": ["talk", "label"], "stages": ["table", "talk"]},
    "subtalk": {
        "is_subtalk": ["table", "one", "two"], "is_subkind": ["table", "one", "two"],
        "wrong_path": ["table", "one", "two"]},
    "fitting": {"fits": ["table", "one", "two"], "wrong_run": ["table", "one", "two"]},
    "expressions": {"kind_of": ["expression", "context", "at"]},
    "checker": {
        "check_block": ["program", "context", "block"], "check_definition": ["program", "definition"],
        "check_program": ["program"], "mistake": ["program"]},
    "replacing": {"refusal": ["program", "definition"], "may_replace": ["program", "definition"]},
    "values": {"evaluate": ["e", "names"], "is_end": ["value"], "ends_of": ["names"]},
    "plain": {"step": ["state", "actor"], "fall": ["state", "actor"], "run": ["program", *PLAN]},
    "code": {"is_effect": ["instruction"], "code_text": ["code"]},
    "compiler": {"compile_definition": ["definition"], "compile_program": ["program"]},
    "machine": {"run_machine": ["program", *PLAN]},
    "judge": {"judge": ["table", "trace"], "history": ["trace", "conversation"],
              "words": ["trace", "conversation", "side"]},
}
METHODS = {
    ("program", "Program"): {
        "__init__": [], "add_talk": ["name", "talk"], "add_actor": ["definition"], "talk": ["name"],
        "actor": ["name"], "has_talk": ["name"], "has_actor": ["name"], "talks": [], "table": [], "actors": []},
    ("contexts", "Context"): {
        "__init__": ["pairs"], "__iter__": [], "binds": ["name"], "kind": ["name"], "is_end": ["name"],
        "bind": ["name", "kind"], "change": ["name", "talk"], "release": ["name"], "ends": [], "pairs": [],
        "twin": []},
    ("mailboxes", "Conversations"): {
        "__init__": [], "__len__": [], "create": [], "send": ["conversation", "side", "label", "payload"],
        "hear": ["conversation", "side"], "can_hear": ["conversation", "side"], "is_told": ["conversation", "side"],
        "close": ["conversation", "side"], "drop": ["ends"], "mark": ["conversation", "side"],
        "mailbox": ["conversation", "side"], "snapshot": [], "twin": []},
    ("state", "State"): {
        "__init__": ["program"], "program": [], "newest": ["name"], "renew": ["definition"], "actors": [],
        "status": ["actor"], "name": ["actor"], "rest": ["actor"], "names": ["actor"], "ready": [], "running": [],
        "start": ["definition", "values"], "put": ["actor", "names", "rest"],
        "rename": ["actor", "definition", "values"], "finish": ["actor", "status"], "snapshot": [], "twin": []},
    ("code", "Code"): {"__init__": ["name", "size", "slots", "instructions"]},
    ("machine", "Machine"): {
        "__init__": ["program"], "ready": [], "turn": ["actor"], "fall": ["actor"],
        "replace_definition": ["definition"], "status": ["actor"], "actors": []},
    ("history", "Ledger"): {
        "__init__": ["table"], "allows": ["event"], "enter": ["event"], "talk_of": ["conversation", "side"],
        "mark_of": ["conversation", "side"], "mailbox_of": ["conversation", "side"], "owed": [], "conversations": [],
        "actors": [], "finished": ["actor"]},
}


def tree_of(path):
    return ast.parse(path.read_text(encoding="ascii"))


def named(body, kind):
    return {node.name: node for node in body if isinstance(node, kind)}


def parameters(function):
    return [one.arg for one in function.args.args + function.args.kwonlyargs]


class InterfaceTest(unittest.TestCase):
    def test_functions(self):
        for module, listed in FUNCTIONS.items():
            found = named(tree_of(PACKAGE / (module + ".py")).body, ast.FunctionDef)
            for name, expected in listed.items():
                self.assertIn(name, found)
                self.assertEqual(parameters(found[name]), expected, name)
                named_only = [one.arg for one in found[name].args.kwonlyargs]
                self.assertEqual(named_only, PLAN if PLAN[0] in expected else [], name)

    def test_errors(self):
        found = named(tree_of(PACKAGE / "errors.py").body, ast.ClassDef)
        self.assertEqual(list(found), list(ERRORS))
        for name, expected in ERRORS.items():
            if expected is not None:
                methods = named(found[name].body, ast.FunctionDef)
                self.assertEqual(parameters(methods["__init__"]), ["self", *expected])

    def test_methods(self):
        for (module, word), listed in METHODS.items():
            found = named(tree_of(PACKAGE / (module + ".py")).body, ast.ClassDef)
            methods = named(found[word].body, ast.FunctionDef)
            for name, expected in listed.items():
                self.assertEqual(parameters(methods[name]), ["self", *expected], name)


class FilesTest(unittest.TestCase):
    def test_only_python_files(self):
        found = [path.name for path in PACKAGE.iterdir() if path.name != "__pycache__"]
        self.assertIn("__init__.py", found)
        self.assertEqual([name for name in found if not name.endswith(".py")], [])

    def test_characters_and_sizes(self):
        for path in PACKAGE.glob("*.py"):
            lines = path.read_text(encoding="ascii").split("\n")
            self.assertLessEqual(len(lines) - 1, 399, path)
            for number, line in enumerate(lines, start=1):
                self.assertLessEqual(len(line), 120, (path, number))
                self.assertTrue(all(" " <= character <= "~" for character in line), (path, number))

    def test_functions_are_small(self):
        for path in PACKAGE.glob("*.py"):
            for node in ast.walk(tree_of(path)):
                if isinstance(node, ast.FunctionDef):
                    self.assertLessEqual(node.end_lineno - node.lineno + 1, 40, (path, node.name))

    def test_imports_only_from_the_package(self):
        for path in PACKAGE.glob("*.py"):
            for node in ast.walk(tree_of(path)):
                self.assertNotIsInstance(node, ast.Import, path)
                if isinstance(node, ast.ImportFrom):
                    self.assertTrue(node.module.startswith("pourparler."), (path, node.module))


if __name__ == "__main__":
    unittest.main()
