"""The names, files and parameters of the interface."""

import ast
import importlib
import inspect
import pathlib
import unittest

PACKAGE = pathlib.Path(__file__).resolve().parent.parent / "factsandfar"
FUNCTIONS = {
    "axioms": {
        "is_concept": "(candidate)",
        "is_axiom": "(candidate)",
        "check_ontology": "(candidate)",
        "inverse": "(direction)",
        "concepts_of": "(ontology)",
    },
    "subsumption": {
        "superconcepts": "(ontology, concept)",
        "find_chain": "(ontology, one, other, *, roles_only=False)",
        "is_chain": "(ontology, one, other, candidate, *, roles_only=False)",
        "chain_justifications": "(ontology, one, other)",
    },
    "emptiness": {
        "find_emptiness_certificate": "(ontology, concept)",
        "is_emptiness_certificate": "(ontology, concept, candidate)",
    },
    "facts": {
        "check_facts": "(candidate)",
    },
    "derivations": {
        "derived_facts": "(ontology, facts)",
        "find_derivation": "(ontology, facts, fact)",
        "is_derivation": "(ontology, facts, candidate)",
    },
    "conflicts": {
        "find_conflict": "(ontology, facts)",
        "is_conflict": "(ontology, facts, candidate)",
    },
    "models": {
        "is_model_table": "(candidate)",
        "is_model": "(ontology, facts, candidate)",
        "violated_axioms": "(ontology, model)",
    },
    "canonical": {
        "canonical_model": "(ontology, facts)",
    },
    "queries": {
        "is_query": "(candidate)",
        "is_isomorphic": "(one, other)",
        "evaluate": "(facts, query)",
    },
    "matching": {
        "holds_in_model": "(model, query, answer)",
    },
    "answering": {
        "certain_answers": "(ontology, facts, query)",
        "find_certificate": "(ontology, facts, query, answer)",
        "is_certificate": "(ontology, facts, query, answer, candidate)",
        "find_countermodel": "(ontology, facts, query, answer)",
        "is_countermodel": "(ontology, facts, query, answer, candidate)",
    },
    "rewriting": {
        "rewrite": "(ontology, query)",
        "is_rewriting": "(ontology, query, candidate)",
        "evaluate_rewriting": "(rewriting, facts)",
    },
    "containment": {
        "find_homomorphism": "(one, other)",
        "is_homomorphism": "(one, other, candidate)",
        "minimize": "(queries)",
        "find_separation": "(one, other)",
        "is_separation": "(one, other, candidate)",
    },
    "tables": {
        "check_tables": "(candidate)",
        "check_constraints": "(tables, candidate)",
        "violated_constraints": "(tables, constraints)",
    },
    "mappings": {
        "check_mappings": "(tables, candidate)",
        "facts_with_provenance": "(mappings, tables)",
        "mapped_facts": "(mappings, tables)",
    },
    "unfolding": {
        "unfold": "(mappings, queries)",
        "evaluate_on_tables": "(tables, queries)",
    },
    "simplification": {
        "apply_step": "(constraints, query, step)",
        "simplification_steps": "(constraints, query)",
        "redundant_mappings": "(mappings)",
    },
    "justifications": {
        "answer_justifications": "(ontology, mappings, tables, query, answer)",
        "conflict_sets": "(ontology, mappings, tables)",
    },
    "repairing": {
        "minimal_hitting_sets": "(sets)",
        "repairs": "(ontology, mappings, tables)",
        "remove_rows": "(tables, rows)",
        "consistent_answers": "(ontology, mappings, tables, query)",
        "possible_answers": "(ontology, mappings, tables, query)",
    },
    "comparison": {
        "compare_ontologies": "(one, other)",
        "is_difference": "(one, other, candidate)",
    },
    "alignment": {
        "new_consequences": "(ontology, more)",
    },
    "renaming": {
        "rename_ontology": "(ontology, concepts, roles)",
        "rename_facts": "(facts, concepts, roles)",
        "rename_query": "(query, concepts, roles)",
        "rename_tables": "(tables, names, sources)",
        "rename_mappings": "(mappings, concepts, roles, names)",
    },
    "text_format": {
        "format_ontology": "(ontology)",
        "format_facts": "(facts)",
        "format_query": "(query)",
        "format_tables": "(tables)",
        "format_mappings": "(mappings)",
        "parse_ontology": "(text)",
        "parse_facts": "(text)",
        "parse_query": "(text)",
        "parse_tables": "(text)",
        "parse_mappings": "(text)",
    },
}
METHODS = {
    ("knowledge_base", "KnowledgeBase"): {
        "__init__": "(self, ontology=(), *, mappings=(), tables=None)",
        "__len__": "(self)",
        "__eq__": "(self, other)",
        "apply": "(self, change)",
        "undo": "(self)",
        "apply_all": "(self, changes)",
        "log": "(self)",
        "ontology": "(self)",
        "mappings": "(self)",
        "facts": "(self)",
        "tables": "(self)",
        "version": "(self)",
        "clone": "(self)",
        "answers": "(self, query, *, offline=())",
        "save_query": "(self, name, query)",
        "saved_answers": "(self, name)",
        "preview": "(self, change, query)",
        "inconsistent_since": "(self)",
    },
    ("console", "Console"): {
        "__init__": "(self)",
        "run": "(self, command)",
    },
}


class Interface(unittest.TestCase):
    def test_names_and_parameters(self):
        for module, functions in FUNCTIONS.items():
            loaded = importlib.import_module(f"factsandfar.{module}")
            for name, parameters in functions.items():
                self.assertEqual(str(inspect.signature(getattr(loaded, name))), parameters, name)

    def test_defined_in_their_files(self):
        for module, functions in FUNCTIONS.items():
            tree = ast.parse((PACKAGE / f"{module}.py").read_text())
            defined = [node.name for node in tree.body if isinstance(node, ast.FunctionDef)]
            for name in functions:
                self.assertIn(name, defined)

    def test_methods(self):
        for (module, name), methods in METHODS.items():
            loaded = getattr(importlib.import_module(f"factsandfar.{module}"), name)
            for method, parameters in methods.items():
                self.assertEqual(str(inspect.signature(getattr(loaded, method))), parameters, method)

    def test_methods_defined_in_their_classes(self):
        for (module, name), methods in METHODS.items():
            tree = ast.parse((PACKAGE / f"{module}.py").read_text())
            [found] = [node for node in tree.body if isinstance(node, ast.ClassDef) and node.name == name]
            defined = [node.name for node in found.body if isinstance(node, ast.FunctionDef)]
            self.assertLessEqual(set(methods), set(defined))


if __name__ == "__main__":
    unittest.main()
