"""The names and arguments of the interface, defined in the files that it tells."""

import ast
import importlib
import inspect
import unittest
from pathlib import Path

PACKAGE = Path(__file__).resolve().parent.parent / "soundturns"

CLASSES = {
    "errors": ("ShiftError", "NotWord", "NotRule", "NotMachine", "NotLanguage", "NotBook",
               "BadNumber", "NoAnswer", "TooLarge", "OpenTrial", "Malformed", "BadJournal"),
    "desk": ("Desk",),
    "journal": ("Journal",),
}

METHODS = {
    ("desk", "Desk"): ("answer(self, line)", "answers(self, lines)", "names(self)", "thing(self, name)"),
    ("journal", "Journal"): ("answer(self, line)", "record(self)", "lines(self)", "keep(self)", "__enter__(self)",
                             "__exit__(self, kind, value, trace)"),
}

FUNCTIONS = {
    "words": ("letters_of(k)", "is_word(k, word)", "check_word(k, word)",
              "is_before(k, one, other)", "in_order(words)", "words_of_length(k, length)",
              "common(one, other)"),
    "rules": ("is_rule(k, rule)", "is_rules(k, rules)", "stands(k, rule, word)",
              "changed(k, rule, word)", "turned(k, rule)", "renamed_word(k, word, names)",
              "renamed(k, rule, names)"),
    "texts": ("text_of_rule(k, rule)", "text_of_rules(k, rules)", "read_rule(k, text)",
              "read_rules(k, text)"),
    "lists": ("form_of(k, rules, word)", "steps_of(k, rules, word)", "acting(k, rules, word)",
              "is_kept(k, rules, word)", "turned_rules(k, rules)",
              "renamed_rules(k, rules, names)", "settled(k, rules, word, *, most=20)"),
    "traces": ("trace_of(k, rules, word)", "pieces(k, rules, word)",
               "piece_of(k, rules, word, at)", "lost(k, rules, word)"),
    "machines": ("is_machine(machine)", "is_wide(machine)", "check_machine(machine)",
                 "check_wide(machine)", "form(machine, word)", "written(machine, word)",
                 "state_behind(machine, word)", "still(k)"),
    "making": ("rule_machine(k, rule)", "behind(one, other)", "list_machine(k, rules)"),
    "least": ("beginnings(machine)", "is_early(machine)", "early(machine)", "reached(machine)",
              "least(machine)", "same_forms(one, other)"),
    "equal": ("lead(one, other, word)", "is_closed(one, other, table)", "least_table(one, other)",
              "first_word(one, other)", "answer(one, other)", "is_answer(one, other, given)",
              "lists_alike(k, one, other)"),
    "sources": ("source_language(machine, word)", "has_source(machine, word)",
                "first_source(machine, word)", "is_endless(machine, word)", "all_sources(machine, word)",
                "first_sources(machine, word, most)", "source_counts(machine, word, length)"),
    "languages": ("is_language(language)", "is_wide_language(language)", "takes(language, word)",
                  "least_language(language)", "all_words(k)", "no_word(k)", "of_words(k, words)",
                  "both(one, other)", "either(one, other)", "followed(one, other)", "others(language)",
                  "turned_language(language)", "first_word(language)", "listed_first(language)",
                  "stray(one, other)", "parting(one, other)", "is_within(one, other)",
                  "counts(language, length)", "is_finite(language)", "listed(language, length)"),
    "images": ("sources(machine, language)", "forms(machine, language)", "all_forms(machine)",
               "is_form(machine, word)", "missing(machine)", "astray(machine, one, other)",
               "leads_into(machine, one, other)"),
    "apart": ("starts(machine)", "following(machine, place)", "closed_places(machine)",
              "is_closed_list(machine, places)", "two_words(machine)", "is_one_to_one(machine)"),
    "books": ("is_book(book)", "form_at(book, index, cell)", "paradigm(book, index)",
              "told_back(book, word)", "fallen(book)", "cell_machine(book, index, cell)",
              "falls_together(book, one, other)", "classes_differ(book, one, other)",
              "stems_of(book, index, cell, word)", "stems_like(book, index, forms)", "guesses(book, word)"),
    "orders": ("are_alike(k, one, other)", "change_places(k, one, other)", "clash(k, one, other)", "needless(k, rules)",
               "thinned(k, rules)", "orders(k, rules)", "is_steady(k, rules)", "unsteady(k, rules)",
               "same_times(k, rules, most)"),
    "feeding": ("feeding(k, one, other)", "bleeding(k, one, other)", "is_met(k, rule, word)",
                "first_acting(k, rules, index)", "idle(k, rules)"),
    "finding": ("simple_rules(k, n)", "explains(k, rules, pairs)", "explaining(k, n, pairs)", "first_rule(k, n, pairs)",
                "first_list(k, n, m, pairs)", "first_question(k, n, pairs)"),
    "papers": ("paper_of(k, rules)", "last_machine(k, paper)", "decide(k, one, other)", "shows(answer)"),
    "certificates": ("is_paper(k, rules, paper)", "shown(k, one, other, answer)", "table_shown(one, other, table)",
                     "pair_shown(machine, one, other)", "places_shown(machine, places)"),
    "lines": ("words_of(line)", "is_name(word)", "number_in(word)", "told(text)", "untold(word)"),
    "journal": ("attempt(journal, lines, *, keep=False)", "resume(text)"),
}


def defined_names(module):
    """Return the names of all functions and classes that the file of a module defines."""
    tree = ast.parse((PACKAGE / f"{module}.py").read_text(encoding="utf-8"))
    return [node.name for node in tree.body if isinstance(node, (ast.FunctionDef, ast.ClassDef))]


class InterfaceTest(unittest.TestCase):
    def test_methods(self):
        for (module, name), calls in METHODS.items():
            found = getattr(importlib.import_module(f"soundturns.{module}"), name)
            self.assertEqual(str(inspect.signature(found)), "()")
            for call in calls:
                with self.subTest(name=name, call=call):
                    method, arguments = call.split("(", 1)
                    # Defined in the class itself, not in a base class.
                    self.assertIn(method, vars(found))
                    self.assertEqual(str(inspect.signature(vars(found)[method])), "(" + arguments)

    def test_every_function_has_a_docstring(self):
        for path in PACKAGE.glob("*.py"):
            tree = ast.parse(path.read_text(encoding="utf-8"))
            self.assertIsNotNone(ast.get_docstring(tree), path)
            for node in tree.body:
                if isinstance(node, (ast.FunctionDef, ast.ClassDef)):
                    self.assertIsNotNone(ast.get_docstring(node), (path, node.name))

    def test_classes(self):
        for module, names in CLASSES.items():
            for name in names:
                with self.subTest(module=module, name=name):
                    self.assertIn(name, defined_names(module))

    def test_functions(self):
        for module, calls in FUNCTIONS.items():
            found = importlib.import_module(f"soundturns.{module}")
            for call in calls:
                with self.subTest(module=module, call=call):
                    name, arguments = call.split("(", 1)
                    self.assertIn(name, defined_names(module))
                    self.assertEqual(str(inspect.signature(getattr(found, name))), "(" + arguments)


if __name__ == "__main__":
    unittest.main()
