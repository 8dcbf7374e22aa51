"""Points 1 to 3: what the document promises of the whole program, on small random data."""

import copy
import itertools
import random
import unittest

from factsandfar.answering import certain_answers, find_certificate, find_countermodel, is_certificate, is_countermodel
from factsandfar.comparison import compare_ontologies, is_difference
from factsandfar.conflicts import find_conflict, is_conflict
from factsandfar.console import Console
from factsandfar.containment import find_separation, minimize
from factsandfar.errors import Inconsistent, LimitExceeded
from factsandfar.justifications import answer_justifications, conflict_sets
from factsandfar.knowledge_base import KnowledgeBase
from factsandfar.mappings import facts_with_provenance, mapped_facts
from factsandfar.repairing import consistent_answers, possible_answers, remove_rows, repairs
from factsandfar.rewriting import evaluate_rewriting, is_rewriting, rewrite
from factsandfar.simplification import apply_step, redundant_mappings, simplification_steps
from factsandfar.tables import violated_constraints
from factsandfar.text_format import (
    format_facts, format_mappings, format_ontology, format_query, format_tables, parse_facts, parse_mappings, parse_ontology, parse_query,
    parse_tables)
from factsandfar.unfolding import evaluate_on_tables, unfold
from oracles import TABLE_COLUMNS, all_row_ids, known_individuals, only_rows, random_mapping, random_ontology, random_query, random_tables

NAMES, ROLES = ["a", "b"], ["r", "s"]


def random_data(rng, *, negative):
    """An ontology, mappings and tables from several sources."""
    ontology = random_ontology(rng, NAMES, ROLES, positive=rng.randrange(4), negative=negative)
    tables = {name: (rng.choice(["hr", "front"]), count, rows[:4]) for name, (source, count, rows) in random_tables(rng).items()}
    mappings = []
    for number in range(rng.randrange(2, 5)):
        mapping = random_mapping(rng, NAMES, ROLES)
        mappings += [mapping] if mapping not in mappings else []
    return ontology, mappings, tables


def all_constraints():
    columns = [(table, column) for table, count in TABLE_COLUMNS.items() for column in range(count)]
    return [("key", *one) for one in columns] + [("foreign_key", *one, *other) for one in columns for other in columns]


def changes_for(ontology, mappings, tables):
    changes = [("add_table", name, source, count) for name, (source, count, rows) in tables.items()]
    changes += [("add_row", name, row) for name, (source, count, rows) in tables.items() for row in rows]
    return changes + [("add_mapping", mapping) for mapping in mappings] + [("add_axiom", axiom) for axiom in ontology]


def lines_for(ontology, mappings, tables):
    """What is typed into a console to build a base."""
    table = None
    for line in format_tables(tables).split("\n"):
        if line.startswith("table"):
            table = line.split()[1]
            yield f"add {line}"
        elif line:
            yield f"add row {table} {line[4:]}"
    for line in (format_mappings(mappings) + "\n" + format_ontology(ontology)).split("\n"):
        if line:
            yield f"add {line}"


def answer_text(answers):
    return "-" if not answers else "; ".join(" ".join(".".join(individual) for individual in answer) for answer in answers) or "yes"


class OneBase(unittest.TestCase):
    def test_built_by_changes_formatted_parsed_and_typed(self):
        rng = random.Random(231)
        seen = {"answers": 0, "none": 0, "inconsistent": 0}
        while min(seen.values()) < 20:
            ontology, mappings, tables = random_data(rng, negative=rng.randrange(3))
            query = random_query(rng, NAMES, ROLES, [("p", "1")], most=3, answers=2)
            given = KnowledgeBase(ontology, mappings=mappings, tables=tables)
            changed = KnowledgeBase()
            self.assertEqual(changed.apply_all(changes_for(ontology, mappings, tables)), len(changes_for(ontology, mappings, tables)))
            parsed = KnowledgeBase(parse_ontology(format_ontology(ontology)), mappings=parse_mappings(format_mappings(mappings)), tables=parse_tables(format_tables(tables)))
            self.assertTrue(given == changed and given == parsed and given == changed.clone())
            console = Console()
            for line in lines_for(ontology, mappings, tables):
                console.run(line)
            self.assertEqual((console.run("rows"), console.run("version")), (str(len(given)), str(changed.version())))
            self.assertEqual(parse_facts(format_facts(given.facts())), given.facts())
            self.assertEqual(parse_query(format_query(query)), query)
            self.assertEqual(console.run("inconsistent") == "-", given.inconsistent_since() is None)
            for offline in ((), ("hr",)):
                command = format_query(query) if not offline else f"offline hr | {format_query(query)}"
                self.same_answers([given, changed, parsed], console, command, query, offline, seen)

    def same_answers(self, bases, console, command, query, offline, seen):
        try:
            answers = bases[0].answers(query, offline=offline)
        except Inconsistent:
            for base in bases:
                with self.assertRaises(Inconsistent) as caught:
                    base.answers(query, offline=offline)
                self.assertTrue(is_conflict(base.ontology(), base.facts(), caught.exception.certificate))
            self.assertRaises(Inconsistent, console.run, command)
            seen["inconsistent"] += 1
            return
        for base in bases:
            base.save_query("q", query)
            self.assertEqual(base.answers(query, offline=offline), answers)
            self.assertTrue(offline or base.saved_answers("q") == answers)
        self.assertEqual(console.run(command), answer_text(answers))
        seen["answers" if answers else "none"] += 1

    def test_undone_to_the_start(self):
        rng = random.Random(232)
        for turn in range(20):
            data = random_data(rng, negative=1)
            base = KnowledgeBase()
            base.apply_all(changes_for(*data))
            while base.version():
                base.undo()
            self.assertTrue(base == KnowledgeBase())


class Agreement(unittest.TestCase):
    def test_consistent_data(self):
        """(a) to (d): each way to the answers leads to the same ones."""
        rng = random.Random(233)
        answered = simplified = turn = 0
        while answered < 40 or simplified < 15:
            turn += 1
            ontology, mappings, tables = random_data(rng, negative=rng.randrange(2))
            facts = mapped_facts(mappings, tables)
            query = random_query(rng, NAMES, ROLES, [("p", "1"), ("q", "2")], most=2, answers=2)
            if find_conflict(ontology, facts) is not None:
                continue
            answers = certain_answers(ontology, facts, query)
            self.each_tuple(ontology, facts, query, answers)
            try:
                rewriting = rewrite(ontology, query)
                unfolded = unfold(mappings, [rewritten for rewritten, step in rewriting])
            except LimitExceeded:
                continue
            self.assertTrue(is_rewriting(ontology, query, rewriting))
            self.assertEqual(evaluate_rewriting(rewriting, facts), answers)
            minimized = minimize([rewritten for rewritten, step in rewriting])
            self.assertIsNone(find_separation(minimized, [rewritten for rewritten, step in rewriting]))
            self.assertEqual(evaluate_rewriting([(rewritten, None) for rewritten in minimized], facts), answers)
            self.assertEqual(evaluate_on_tables(tables, unfolded), answers)
            self.assertEqual(evaluate_on_tables(tables, unfold(mappings, minimized)), answers)
            simplified += self.simplified(tables, unfolded, answers)
            kept = [mapping for number, mapping in enumerate(mappings) if number not in [index for index, other in redundant_mappings(mappings)]]
            self.assertEqual(mapped_facts(kept, tables), facts)
            self.justified(ontology, mappings, tables, query, answers)
            self.assertEqual((conflict_sets(ontology, mappings, tables), repairs(ontology, mappings, tables)), ([], [()]))
            self.assertEqual(consistent_answers(ontology, mappings, tables, query), answers)
            self.assertEqual(possible_answers(ontology, mappings, tables, query), answers)
            answered += answers != []

    def each_tuple(self, ontology, facts, query, answers):
        individuals = known_individuals(facts)[:4] + [("new", "1")]
        for answer in itertools.product(individuals, repeat=len(query[0])):
            certificate, model = find_certificate(ontology, facts, query, answer), find_countermodel(ontology, facts, query, answer)
            self.assertEqual((certificate is not None, model is None), (answer in answers, answer in answers), (ontology, facts, query, answer))
            if model is None:
                self.assertTrue(is_certificate(ontology, facts, query, answer, certificate))
            else:
                self.assertTrue(is_countermodel(ontology, facts, query, answer, model))

    def simplified(self, tables, queries, answers):
        """The answers of the simplified queries, by all constraints that the tables satisfy; how many were simplified."""
        constraints = [constraint for constraint in all_constraints() if not violated_constraints(tables, [constraint])][:8]
        results, count = [], 0
        for query in queries:
            steps = simplification_steps(constraints, query)
            for step in steps:
                query = apply_step(constraints, query, step)
            results += [query] if query is not None else []
            count += steps != []
        self.assertEqual(evaluate_on_tables(tables, results), answers)
        return count > 0

    def justified(self, ontology, mappings, tables, query, answers):
        """Each answer has justifications; the rows of each give the answer, and without any one of them they do not."""
        def is_answer(rows, answer):
            return answer in certain_answers(ontology, mapped_facts(mappings, only_rows(tables, rows)), query)
        for answer in answers[:3]:
            try:
                sets = answer_justifications(ontology, mappings, tables, query, answer)
            except LimitExceeded:
                continue
            for rows in sets[:4]:
                self.assertTrue(is_answer(rows, answer))
                self.assertFalse(any(is_answer([other for other in rows if other != row], answer) for row in rows))
            touched = {row for rows in sets for row in rows}
            for row in touched:
                without = [other for other in all_row_ids(tables) if other != row]
                self.assertEqual(is_answer(without, answer), any(row not in rows for rows in sets))

    def test_inconsistent_data(self):
        """(d): an answer is certain after a repair exactly if a justification of it has no row of the repair."""
        rng = random.Random(234)
        different = inconsistent = 0
        while different < 20 or inconsistent < 50:
            ontology, mappings, tables = random_data(rng, negative=2)
            query = random_query(rng, NAMES, ROLES, [("p", "1")], most=2, answers=1)
            facts = mapped_facts(mappings, tables)
            try:
                sets, repaired = conflict_sets(ontology, mappings, tables), repairs(ontology, mappings, tables)
                everyone = [tuple(chosen) for chosen in itertools.product(known_individuals(facts), repeat=len(query[0]))]
                justified = {answer: answer_justifications(ontology, mappings, tables, query, answer) for answer in everyone}
            except LimitExceeded:
                continue
            self.assertEqual(find_conflict(ontology, facts) is None, sets == [])
            for rows in repaired:
                self.assertTrue(all(set(rows) & set(conflicting) for conflicting in sets))
                left = remove_rows(tables, rows)
                self.assertEqual(conflict_sets(ontology, mappings, left), [])
            if query[0] == () or all(isinstance(term, str) for term in query[0]):
                surviving = {answer: [any(not set(one) & set(rows) for one in justified[answer]) for rows in repaired] for answer in everyone}
                certain, possible = consistent_answers(ontology, mappings, tables, query), possible_answers(ontology, mappings, tables, query)
                self.assertEqual(certain, sorted(answer for answer in everyone if all(surviving[answer])))
                self.assertEqual(possible, sorted(answer for answer in everyone if any(surviving[answer])))
                different += certain != possible
            inconsistent += sets != []

    def test_different_ontologies(self):
        """(f): what is certain with one ontology and not with another one shows in a difference."""
        rng = random.Random(235)
        different = same = 0
        while different < 40 or same < 5:
            ontology, mappings, tables = random_data(rng, negative=1)
            other = list(ontology)
            if rng.randrange(2) and other:
                other.pop(rng.randrange(len(other)))
            difference = compare_ontologies(ontology, other)
            facts = mapped_facts(mappings, tables)
            if difference is None:
                same += 1
                self.assertEqual(find_conflict(ontology, facts) is None, find_conflict(other, facts) is None)
                for number in range(5):
                    query = random_query(rng, NAMES, ROLES, [("p", "1")], most=3)
                    if find_conflict(ontology, facts) is None:
                        self.assertEqual(certain_answers(ontology, facts, query), certain_answers(other, facts, query))
            else:
                different += 1
                self.assertTrue(is_difference(ontology, other, difference))


class Conventions(unittest.TestCase):
    def reordered(self, tables):
        return {name: tables[name] for name in reversed(list(tables))}

    def test_the_order_of_keys(self):
        """Point 2: results do not depend on the order of keys in a dict."""
        rng = random.Random(236)
        compared = 0
        while compared < 40:
            ontology, mappings, tables = random_data(rng, negative=rng.randrange(2))
            other = self.reordered(tables)
            query = random_query(rng, NAMES, ROLES, [("p", "1")], most=2, answers=2)
            self.assertEqual(facts_with_provenance(mappings, tables), facts_with_provenance(mappings, other))
            self.assertEqual(format_tables(tables), format_tables(other))
            self.assertTrue(KnowledgeBase(ontology, mappings=mappings, tables=tables) == KnowledgeBase(ontology, mappings=mappings, tables=other))
            try:
                sets = conflict_sets(ontology, mappings, tables)
                self.assertEqual(sets, conflict_sets(ontology, mappings, other))
                self.assertEqual(repairs(ontology, mappings, tables), repairs(ontology, mappings, other))
                self.assertEqual(possible_answers(ontology, mappings, tables, query), possible_answers(ontology, mappings, other, query))
                for answer in possible_answers(ontology, mappings, tables, query)[:2]:
                    self.assertEqual(answer_justifications(ontology, mappings, tables, query, answer), answer_justifications(ontology, mappings, other, query, answer))
            except LimitExceeded:
                continue
            compared += 1

    def test_the_same_result_each_time(self):
        rng = random.Random(237)
        for turn in range(20):
            ontology, mappings, tables = random_data(rng, negative=1)
            before = copy.deepcopy((ontology, mappings, tables))
            facts = mapped_facts(mappings, tables)
            query = random_query(rng, NAMES, ROLES, [("p", "1")], most=2)
            for function, *arguments in ((find_conflict, ontology, facts), (rewrite, ontology, query), (compare_ontologies, ontology, ontology[1:]), (unfold, mappings, [query])):
                try:
                    self.assertEqual(function(*arguments), function(*copy.deepcopy(arguments)))
                except LimitExceeded:
                    self.assertRaises(LimitExceeded, function, *arguments)
            self.assertEqual((ontology, mappings, tables), before)


if __name__ == "__main__":
    unittest.main()
