"""The names and arguments of the interface, defined in the files that it tells."""

import ast
import importlib
import inspect
import unittest
from pathlib import Path

PACKAGE = Path(__file__).resolve().parent.parent / "soundturns"

CLASSES = {
    "errors": ("ShiftError", "NotWord", "NotRule", "NotMachine", "NotLanguage", "NotBook",
               "BadNumber", "NoAnswer", "TooLarge", "OpenTrial", "Malformed", "BadJournal"),
}

FUNCTIONS = {
    "words": ("letters_of(k)", "is_word(k, word)", "check_word(k, word)",
              "is_before(k, one, other)", "in_order(words)", "words_of_length(k, length)",
              "common(one, other)"),
    "rules": ("is_rule(k, rule)", "is_rules(k, rules)", "stands(k, rule, word)",
              "changed(k, rule, word)", "turned(k, rule)", "renamed_word(k, word, names)",
              "renamed(k, rule, names)"),
    "texts": ("text_of_rule(k, rule)", "text_of_rules(k, rules)", "read_rule(k, text)",
              "read_rules(k, text)"),
    "lists": ("form_of(k, rules, word)", "steps_of(k, rules, word)", "acting(k, rules, word)",
              "is_kept(k, rules, word)", "turned_rules(k, rules)",
              "renamed_rules(k, rules, names)", "settled(k, rules, word, *, most=20)"),
    "traces": ("trace_of(k, rules, word)", "pieces(k, rules, word)",
               "piece_of(k, rules, word, at)", "lost(k, rules, word)"),
    "machines": ("is_machine(machine)", "is_wide(machine)", "check_machine(machine)",
                 "check_wide(machine)", "form(machine, word)", "written(machine, word)",
                 "state_behind(machine, word)", "still(k)"),
}


def defined_names(module):
    """Return the names of all functions and classes that the file of a module defines."""
    tree = ast.parse((PACKAGE / f"{module}.py").read_text(encoding="utf-8"))
    return [node.name for node in tree.body if isinstance(node, (ast.FunctionDef, ast.ClassDef))]


class InterfaceTest(unittest.TestCase):
    def test_classes(self):
        for module, names in CLASSES.items():
            for name in names:
                with self.subTest(module=module, name=name):
                    self.assertIn(name, defined_names(module))

    def test_functions(self):
        for module, calls in FUNCTIONS.items():
            found = importlib.import_module(f"soundturns.{module}")
            for call in calls:
                with self.subTest(module=module, call=call):
                    name, arguments = call.split("(", 1)
                    self.assertIn(name, defined_names(module))
                    self.assertEqual(str(inspect.signature(getattr(found, name))), "(" + arguments)


if __name__ == "__main__":
    unittest.main()
