"""Some rules of the language that a program can check, and the interface's names."""

import ast
import os
import unittest

import leastlearnt

FOLDER = os.path.dirname(leastlearnt.__file__)
BUILTINS = """len range enumerate zip min max sum abs sorted reversed int str bool list tuple dict set isinstance ord
    repr any all divmod True False None ValueError""".split()
BARRED = """register mro elements open input law version_info type eval exec globals locals vars dir id hash map filter
    round format print getattr setattr hasattr super property staticmethod classmethod""".split()
METHODS = "append insert index pop extend get clear".split()
# What the interface lists for each file: functions with their arguments, classes with those of their methods.
INTERFACE = {
    "errors": {name: None for name in """LearnError InvalidMachine InvalidMemory InvalidInput UnknownAnswer TooLarge
        TooManyLies Incomplete NothingAsked NoDifference InvalidTurns""".split()},
    "inputs": {"dense": ["messages"], "alike": ["first", "second"], "code": ["messages"],
               "compare": ["names", "first", "second"], "placings": ["first", "ending"],
               "joined": ["first", "ending", "placing"]},
    "machines": {"Machine": {"__init__": ["self", "names", "answers", "states", "rules"]}, "start": ["machine"],
                 "step": ["machine", "configuration", "message"], "run": ["machine", "messages"],
                 "answer": ["machine", "messages"], "canonical": ["machine"]},
    "comparing": {"first_difference": ["machine", "other"], "needed_registers": ["machine", "state"],
                  "least": ["machine"]},
    "memories": {"Memory": {"__init__": ["self", "names", "answers", "lies"], "hear": ["self", "messages", "answer"],
                            "standing": ["self", "messages"], "possible": ["self", "messages"],
                            "heard": ["self", "messages"], "change": ["self", "names"], "kept": ["self"],
                            "wrong": ["self"]}},
    "rows": {"row": ["memory", "messages", "endings"], "needed": ["memory", "messages", "endings"],
             "alike_by": ["memory", "first", "second", "endings"]},
    "learners": {"Learner": {"__init__": ["self", "memory"], "pending": ["self"], "reply": ["self", "value"],
                             "access": ["self"], "endings": ["self"], "shown": ["self"]}},
    "teachers": {"Teacher": {"__init__": ["self", "machine", "wrong", "silent"], "ask": ["self", "messages"],
                             "judge": ["self", "machine"], "asked": ["self"], "teach": ["self", "learner", "most"]}},
}


def files():
    found = {}
    for name in sorted(os.listdir(FOLDER)):
        if name != "__pycache__":
            with open(os.path.join(FOLDER, name), encoding="utf-8") as file:
                found[name] = file.read()
    return found


def argument_names(function):
    return [one.arg for one in function.args.args]


class Language(unittest.TestCase):
    def test_files(self):
        for name, text in files().items():
            self.assertTrue(name.endswith(".py") and name[:-3].replace("_", "").isalpha() and name == name.lower())
            self.assertLess(len(text.split("\n")), 400)
            for line in text.split("\n"):
                self.assertLessEqual(len(line), 120)
                self.assertTrue(all(" " <= sign <= "~" for sign in line))

    def test_functions_are_short(self):
        for text in files().values():
            for node in ast.walk(ast.parse(text)):
                if isinstance(node, ast.FunctionDef):
                    self.assertLessEqual(node.end_lineno - node.lineno + 1, 40)
                    self.assertNotIn(node.name, BARRED)

    def test_imports(self):
        for text in files().values():
            for node in ast.walk(ast.parse(text)):
                self.assertNotIsInstance(node, ast.Import)
                if isinstance(node, ast.ImportFrom):
                    self.assertEqual(node.module.split(".")[0], "leastlearnt")
                    self.assertIn(node.module.split(".")[1] + ".py", files())
                    self.assertTrue(all(one.asname is None and one.name != "*" for one in node.names))

    def test_names_and_methods(self):
        for text in files().values():
            tree = ast.parse(text)
            own = {node.name for other in files().values() for node in ast.walk(ast.parse(other))
                   if isinstance(node, (ast.FunctionDef, ast.ClassDef))}
            bound = {node.id for node in ast.walk(tree) if isinstance(node, ast.Name)
                     and isinstance(node.ctx, ast.Store)}
            bound |= {node.arg for node in ast.walk(tree) if isinstance(node, ast.arg)}
            self.assertFalse(bound & set(BUILTINS + BARRED))
            for node in ast.walk(tree):
                if isinstance(node, ast.Name):
                    self.assertIn(node.id, own | bound | set(BUILTINS))
                if isinstance(node, ast.Call) and isinstance(node.func, ast.Attribute):
                    self.assertIn(node.func.attr, own | set(METHODS))
                self.assertNotIsInstance(node, (ast.GeneratorExp, ast.Try, ast.Global, ast.Lambda, ast.Yield,
                                                ast.Div, ast.Starred, ast.AsyncFunctionDef))

    def test_names_of_classes_and_imports_mean_nothing_else(self):
        for text in files().values():
            tree = ast.parse(text)
            taken = {node.name for node in tree.body if isinstance(node, ast.ClassDef)}
            taken |= {one.name for node in tree.body if isinstance(node, ast.ImportFrom) for one in node.names}
            for node in ast.walk(tree):
                if isinstance(node, ast.Name) and isinstance(node.ctx, ast.Store):
                    self.assertNotIn(node.id, taken)
                if isinstance(node, ast.arg):
                    self.assertNotIn(node.arg, taken)

    def test_methods_and_attributes_have_different_names(self):
        for text in files().values():
            for made in [node for node in ast.parse(text).body if isinstance(node, ast.ClassDef)]:
                methods = [node.name for node in made.body if isinstance(node, ast.FunctionDef)]
                attributes = {node.attr for node in ast.walk(made)
                              if isinstance(node, ast.Attribute) and isinstance(node.ctx, ast.Store)}
                self.assertEqual(len(set(methods)), len(methods))
                self.assertFalse(attributes & set(methods))

    def test_no_files_import_each_other(self):
        imports = {name[:-3]: {node.module.split(".")[1] for node in ast.parse(text).body
                               if isinstance(node, ast.ImportFrom)} for name, text in files().items()}
        while imports:
            free = [name for name, needs in imports.items() if not needs & set(imports)]
            self.assertTrue(free)
            for name in free:
                imports.pop(name)

    def test_interface(self):
        for name, told in INTERFACE.items():
            found = {node.name: node for node in ast.parse(files()[name + ".py"]).body
                     if isinstance(node, (ast.FunctionDef, ast.ClassDef))}
            for word, wanted in told.items():
                if isinstance(wanted, list):
                    self.assertEqual(argument_names(found[word]), wanted)
                if isinstance(wanted, dict):
                    methods = {node.name: node for node in found[word].body if isinstance(node, ast.FunctionDef)}
                    for method, arguments in wanted.items():
                        self.assertEqual(argument_names(methods[method]), arguments)
                self.assertIn(word, found)


if __name__ == "__main__":
    unittest.main()
