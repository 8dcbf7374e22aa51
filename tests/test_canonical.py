import copy
import random
import unittest

from factsandfar.axioms import concepts_of
from factsandfar.canonical import canonical_model
from factsandfar.conflicts import find_conflict, is_conflict
from factsandfar.derivations import derived_facts
from factsandfar.emptiness import find_emptiness_certificate
from factsandfar.errors import Inconsistent
from factsandfar.models import is_model, is_model_table
from oracles import (
    aliases, all_axioms, chased, example_fact, facts_of, is_consistent, known_individuals, model_of, random_facts, random_ontology,
    unrolled)

T, U, V = ("p", "1"), ("p", "2"), ("q", "x1")
A, B, C = ("concept", "a"), ("concept", "b"), ("concept", "c")


class Canonical(unittest.TestCase):
    def accepted(self, ontology, facts):
        model = canonical_model(ontology, facts)
        self.assertIs(is_model_table(model), True, model)
        self.assertLessEqual(len(model[2]), 20)
        for indexes in list(model[1].values()) + [kind[2] for kind in model[2]]:
            self.assertLessEqual(len(indexes), 16)
        self.assertIs(is_model(ontology, facts, model), True, (ontology, facts, model))
        self.assertLessEqual(set(derived_facts(ontology, facts)), set(model[0]))
        return model

    def rejected(self, ontology, facts):
        with self.assertRaises(Inconsistent) as caught:
            canonical_model(ontology, facts)
        self.assertIsInstance(caught.exception, RuntimeError)
        self.assertIs(is_conflict(ontology, facts, caught.exception.certificate), True)

    def test_nothing(self):
        self.assertEqual(canonical_model([], []), ([], {}, []))
        self.assertEqual(canonical_model([("subclass", A, B)], []), ([], {}, []))
        self.accepted([], [("concept", "a", T), ("role", "r", T, U)])

    def test_derived_facts(self):
        ontology = [("subclass", A, B), ("subclass", ("in", "r"), C), ("subrole", "r", "s"), ("subrole_inverse", "s", "t")]
        facts = [("concept", "a", T), ("role", "r", T, U)]
        model = self.accepted(ontology, facts)
        self.assertEqual(sorted(model[0]), sorted(facts + [("concept", "b", T), ("concept", "c", U), ("role", "s", T, U), ("role", "t", U, T)]))
        self.assertEqual((model[1], model[2]), ({}, []))

    def test_a_child_only_where_there_is_no_neighbour(self):
        ontology = [("subclass", A, ("out", "r"))]
        self.assertEqual(self.accepted(ontology, [("concept", "a", T), ("role", "r", T, U)])[2], [])
        self.assertEqual(len(self.accepted(ontology, [("concept", "a", T), ("role", "r", U, T)])[2]), 1)
        self.assertEqual(self.accepted(ontology + [("subrole_inverse", "s", "r")], [("concept", "a", T), ("role", "s", U, T)])[2], [])

    def test_one_child_serves_several_axioms(self):
        axioms = [("subclass", A, ("out", "r")), ("subclass", A, ("out", "s")), ("subclass", B, ("in", "t")), ("subrole", "s", "r"), ("subrole_inverse", "s", "t")]
        for ontology in (axioms, axioms[::-1]):
            self.assertEqual([len(indexes) for indexes in self.accepted(ontology, [("concept", "a", T), ("concept", "b", T)])[1].values()], [1])

    def test_the_parent_is_a_neighbour(self):
        """Roles that lead back and forth: the child has what it needs in its parent."""
        ontology = [("subclass", A, ("out", "r")), ("subclass", ("in", "r"), A), ("subrole_inverse", "r", "r")]
        model = self.accepted(ontology, [("concept", "a", T)])
        self.assertEqual([kind[2] for kind in model[2]], [()])
        ontology = [("subclass", A, ("out", "r")), ("subclass", ("in", "r"), ("in", "s")), ("subrole", "r", "s")]
        self.assertEqual([kind[2] for kind in self.accepted(ontology, [("concept", "a", T)])[2]], [()])
        ontology = [("subclass", A, ("out", "r")), ("subclass", ("in", "r"), ("out", "s")), ("subclass", ("in", "s"), ("in", "r"))]
        self.accepted(ontology, [("concept", "a", T)])

    def test_functional_roles(self):
        functional = [("functional", ("out", "r")), ("functional", ("in", "r"))]
        ontology = functional + [("subclass", A, ("out", "r")), ("subclass", B, ("out", "r")), ("subclass", ("in", "r"), A)]
        self.accepted(ontology, [("concept", "a", T), ("concept", "b", T)])
        self.accepted(ontology, [("concept", "a", T), ("role", "r", T, U)])
        self.accepted(ontology, [("role", "r", T, U), ("role", "r", U, T)])
        self.accepted(ontology, [("role", "r", T, T)])
        self.rejected(ontology, [("role", "r", T, U), ("role", "r", T, V)])
        self.rejected(ontology, [("role", "r", U, T), ("role", "r", V, T)])
        subroles = functional + [("subrole", "r", "s"), ("subclass", A, ("out", "r")), ("subclass", A, ("out", "s")), ("subclass", ("in", "s"), A)]
        self.accepted(subroles, [("concept", "a", T)])
        self.accepted(subroles, [("concept", "a", T), ("role", "s", T, U)])

    def test_disjointness(self):
        ontology = [("subclass", A, ("out", "r")), ("subclass", ("in", "r"), B), ("disjoint", A, B)]
        self.accepted(ontology, [("concept", "a", T), ("concept", "b", U)])
        self.rejected(ontology, [("concept", "a", T), ("concept", "b", T)])
        self.rejected(ontology, [("role", "r", T, U), ("concept", "a", U)])
        self.rejected(ontology + [("subclass", B, A)], [("concept", "a", T)])
        self.accepted([("disjoint_roles", "r", "s"), ("subclass", A, ("out", "r")), ("subclass", A, ("out", "s"))], [("concept", "a", T)])
        self.rejected([("disjoint_roles", "r", "s"), ("subclass", A, ("out", "r")), ("subrole", "r", "s")], [("concept", "a", T)])
        self.accepted([("disjoint_inverse", "r", "r"), ("subclass", A, ("out", "r")), ("subclass", A, ("in", "r"))], [("concept", "a", T)])
        self.rejected([("disjoint_inverse", "r", "r"), ("subclass", A, ("out", "r")), ("subrole_inverse", "r", "r")], [("concept", "a", T)])

    def test_sixteen_axioms(self):
        names = "abcdefghijklmnop"
        facts = [("concept", "a", T), ("role", "a", T, U)]
        chain = [("subclass", ("in", one), ("out", other)) for one, other in zip(names, names[1:] + "a")]
        ring = self.accepted(chain, facts)
        self.assertEqual(len(chain), 16)
        self.assertGreater(len(ring[2]), 14)
        wide = [("subclass", A, (tag, role)) for role in names[:8] for tag in ("out", "in")]
        self.assertGreater(len(self.accepted(wide, facts)[1][T]), 14)
        everywhere = [("subclass", A, ("out", role)) for role in names[:8]] + [("subclass", ("in", role), A) for role in names[:8]]
        self.accepted(everywhere, facts)
        roles = [("subrole", one, other) for one, other in zip(names, names[1:])] + [("subclass", A, ("out", "a"))]
        self.assertEqual(len(self.accepted(roles, facts[:1])[2]), 1)
        mixed = [("subclass", A, ("out", role)) for role in names[:5]] + [("subrole", role, "z") for role in names[:5]]
        mixed += [("subclass", ("in", "z"), A), ("functional", ("out", "a")), ("functional", ("in", "b")), ("disjoint_roles", "a", "b"),
                  ("disjoint_inverse", "z", "z"), ("disjoint", ("concept", "b"), A)]
        self.assertEqual(len(mixed), 16)
        self.accepted(mixed, facts[:1])

    def test_sixteen_random_axioms(self):
        rng = random.Random(51)
        counts = {True: 0, False: 0}
        for turn in range(150):
            names, roles = ["a", "b", "c"], ["r", "s", "t", "u", "v", "w"]
            negative = rng.randrange(3)
            ontology = random_ontology(rng, names, roles, positive=16 - negative, negative=negative)
            facts = random_facts(rng, names, roles, [T, U, V], rng.randrange(1, 6))
            if find_conflict(ontology, facts) is None:
                self.accepted(ontology, facts)
                counts[True] += 1
            else:
                self.rejected(ontology, facts)
                counts[False] += 1
        self.assertGreater(min(counts.values()), 20)

    def test_exactly_one_of_a_model_and_a_conflict(self):
        rng = random.Random(52)
        counts = {True: 0, False: 0}
        for turn in range(500):
            names, roles = ["a", "b"], ["r", "s"]
            ontology = random_ontology(rng, names, roles, positive=rng.randrange(7), negative=rng.randrange(4))
            facts = random_facts(rng, names, roles, [T, U, V], rng.randrange(5))
            consistent = is_model(ontology, facts, model_of(ontology, facts, names, roles))
            if consistent:
                model = self.accepted(ontology, facts)
                graph = unrolled(model, 4)
                self.assertTrue(all(graph.holds(axiom, 4) for axiom in ontology), (ontology, facts, model))
            else:
                self.rejected(ontology, facts)
            if turn < 100:
                self.assertIs(is_consistent(ontology, facts, 4), consistent)
            counts[consistent] += 1
        self.assertGreater(min(counts.values()), 100)

    def test_nothing_that_does_not_follow(self):
        """What holds of the named individuals in the model follows from the facts."""
        rng = random.Random(53)
        for turn in range(200):
            names, roles = ["a", "b"], ["r", "s"]
            ontology = random_ontology(rng, names, roles, positive=rng.randrange(7), negative=0)
            facts = random_facts(rng, names, roles, [T, U], rng.randrange(1, 4))
            model, graph = canonical_model(ontology, facts), chased(ontology, facts, 1)
            self.assertEqual(sorted(model[0]), facts_of(graph))
            self.assertLessEqual(set(model[1]), set(known_individuals(facts)))
            described = unrolled(model, 1)
            for concept in concepts_of(ontology):
                named = {node for node in graph.members(concept) if graph.depths[node] == 0}
                self.assertEqual({node for node in described.members(concept) if described.depths[node] == 0}, named)

    def test_an_emptiness_certificate_or_a_member(self):
        """Point 6: each concept of an ontology is empty, or a model has a member of it."""
        rng = random.Random(54)
        counts = {True: 0, False: 0}
        for turn in range(150):
            ontology = random_ontology(rng, ["a", "b"], ["r", "s"], positive=rng.randrange(7), negative=rng.randrange(1, 4))
            for concept in concepts_of(ontology):
                facts = [example_fact(concept, T, U)]
                empty = find_emptiness_certificate(ontology, concept) is not None
                if empty:
                    self.rejected(ontology, facts)
                else:
                    self.assertIn(T, unrolled(self.accepted(ontology, facts), 1).members(concept))
                counts[empty] += 1
        self.assertGreater(min(counts.values()), 100)

    def test_every_axiom_alone(self):
        for axiom in all_axioms(["a", "b"], ["r", "s"], ("subclass", "subrole", "subrole_inverse", "disjoint", "disjoint_roles", "disjoint_inverse", "functional")):
            for facts in ([], [("concept", "a", T)], [("role", "r", T, U)], [("role", "r", T, T)], [("role", "r", T, U), ("role", "s", T, U)]):
                try:
                    self.accepted([axiom], facts)
                except Inconsistent:
                    self.rejected([axiom], facts)
                    self.assertIs(is_consistent([axiom], facts), False)

    def test_new_tables_unchanged_arguments_and_names(self):
        ontology = [("subclass", A, ("out", "r")), ("subclass", ("in", "r"), A)]
        facts = [("concept", "a", T), ("concept", "a", U)]
        before = copy.deepcopy((ontology, facts))
        first, second = canonical_model(ontology, facts), canonical_model(ontology, facts)
        self.assertEqual(first, second)
        ids = aliases(first) + aliases(second) + aliases((ontology, facts))
        self.assertEqual(len(set(ids)), len(ids))
        first[1][T].clear()
        self.assertEqual(first[1][U], second[1][U])
        self.assertEqual(canonical_model(ontology=ontology, facts=facts), second)
        self.assertEqual(canonical_model(tuple(ontology), tuple(facts)), second)
        self.assertEqual((ontology, facts), before)

    def test_the_certificate_is_new(self):
        ontology, facts = [("disjoint", A, A)], [("concept", "a", T)]
        with self.assertRaises(Inconsistent) as caught:
            canonical_model(ontology, facts)
        caught.exception.certificate[0].clear()
        self.rejected(ontology, facts)


if __name__ == "__main__":
    unittest.main()
