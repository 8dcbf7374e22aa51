import copy
import random
import unittest

from factsandfar.alignment import new_consequences
from factsandfar.axioms import check_ontology, concepts_of
from factsandfar.emptiness import find_emptiness_certificate
from factsandfar.errors import InvalidOntology, OntologyError
from factsandfar.subsumption import find_chain
from oracles import STRANGE, all_axioms, aliases, chased, example_fact, is_consistent, random_ontology

A, B, C, D = [("concept", name) for name in "abcd"]
R, S, INTO_R, INTO_S = ("out", "r"), ("out", "s"), ("in", "r"), ("in", "s")


def slow_new_consequences(ontology, more):
    """Points 5, 6 and 25, by what follows from one fact about a member of each concept."""
    combined = list(ontology) + list(more)
    parts = [part for axiom in ontology for part in axiom[1:]]
    names = {part[1] for part in parts if isinstance(part, tuple) and part[0] == "concept"}
    roles = {part if isinstance(part, str) else part[1] for part in parts if isinstance(part, str) or part[0] != "concept"}
    concepts = sorted([("concept", name) for name in names] + [(tag, role) for role in roles for tag in ("out", "in")])

    def is_above(axioms, one, other):
        return 0 in chased(axioms, [example_fact(one, 0, 1)], 1).members(other)

    def is_role_above(axioms, one, other):
        return 1 in chased([axiom for axiom in axioms if axiom[0] != "subclass"], [example_fact(one, 0, 1)], 1).neighbours(0, other)

    def is_empty(axioms, concept):
        return not is_consistent(axioms, [example_fact(concept, 0, 1)], 8)
    filled = [concept for concept in concepts if not is_empty(combined, concept)]
    pairs = [(one, other) for one in filled for other in concepts if is_above(combined, one, other) and not is_above(ontology, one, other)]
    role_pairs = [(one, other) for one in filled for other in concepts if one[0] != "concept" and other[0] != "concept"
                  and is_role_above(combined, one, other) and not is_role_above(ontology, one, other)]
    return pairs, role_pairs, [concept for concept in concepts if concept not in filled and not is_empty(ontology, concept)]


class NewConsequences(unittest.TestCase):
    def new(self, ontology, more, pairs=(), role_pairs=(), empty=()):
        expected = (sorted(pairs), sorted(role_pairs), sorted(empty))
        self.assertEqual(slow_new_consequences(ontology, more), expected, "the test is wrong")
        self.assertEqual(new_consequences(ontology, more), expected)
        self.assertEqual(new_consequences(tuple(ontology), tuple(more)), expected)

    def invalid(self, ontology, more, index):
        with self.assertRaises(InvalidOntology) as caught:
            new_consequences(ontology, more)
        self.assertIsInstance(caught.exception, OntologyError)
        self.assertEqual((caught.exception.index, type(caught.exception.index)), (index, type(index)))

    def test_nothing_new(self):
        self.new([], [])
        self.new([("subclass", A, B)], [])
        self.new([("subclass", A, B)], [("subclass", C, D)])
        self.new([("subclass", A, B)], [("subclass", A, C), ("subclass", B, C)])
        self.new([], [("subclass", A, B), ("disjoint", A, A), ("subrole", "r", "s")])
        self.new([("subclass", A, B), ("subclass", B, C)], [("subclass", A, C)])

    def test_pairs(self):
        self.new([("subclass", A, B)], [("subclass", B, A)], pairs=[(B, A)])
        self.new([("subclass", A, B), ("subclass", C, D)], [("subclass", B, C)], pairs=[(B, C), (A, C), (A, D), (B, D)])
        self.new([("disjoint", A, B), ("disjoint", C, R)], [("subclass", A, D), ("subclass", D, C)], pairs=[(A, C)])
        self.new([("disjoint", A, R)], [("subclass", A, INTO_R)], pairs=[(A, INTO_R)])

    def test_role_pairs(self):
        self.new([("disjoint_roles", "r", "s")], [("subrole", "r", "q"), ("subclass", R, INTO_R)], pairs=[(R, INTO_R)])
        self.new([("subrole", "q", "r"), ("disjoint", S, A)], [("subrole_inverse", "r", "s")],
                 pairs=[(R, INTO_S), (INTO_R, S), (("out", "q"), INTO_S), (("in", "q"), S)],
                 role_pairs=[(R, INTO_S), (INTO_R, S), (("out", "q"), INTO_S), (("in", "q"), S)])
        self.new([("subclass", R, S), ("subclass", INTO_R, INTO_S)], [("subrole", "r", "s")], role_pairs=[(R, S), (INTO_R, INTO_S)])
        self.new([("subrole", "r", "s")], [("subclass", R, S), ("subclass", S, R)], pairs=[(S, R)])

    def test_empty(self):
        self.new([("subclass", A, B)], [("disjoint", A, B)], empty=[A])
        self.new([("subclass", A, B), ("subclass", B, C)], [("disjoint", B, B), ("subclass", C, A)], pairs=[], empty=[A, B, C])
        self.new([("subclass", A, R), ("subclass", INTO_R, B)], [("disjoint", INTO_R, B)], empty=[A, R, INTO_R])
        self.new([("disjoint", A, A), ("subclass", B, C)], [("subclass", C, A)], empty=[B, C])
        self.new([("subclass", A, B)], [("disjoint", B, C)])

    def test_no_pairs_of_what_is_empty(self):
        self.new([("subclass", A, B), ("subclass", C, D)], [("subclass", A, C), ("disjoint", A, D), ("subclass", B, C)], pairs=[(B, C), (B, D)], empty=[A])
        self.new([("disjoint", A, A), ("disjoint", B, C)], [("subclass", A, B), ("subclass", B, C)], pairs=[], empty=[B])
        self.new([("disjoint_roles", "r", "r"), ("disjoint", S, A)], [("subrole", "r", "s")])

    def test_invalid_axioms(self):
        first = [("subclass", A, B), ("functional", R)]
        self.invalid(first, [("subclass", B, A), ("subclass", A, B)], 3)
        self.invalid(first, [("functional", R)], 2)
        self.invalid(first, [("subclass", B, A), ("subclass", B, A)], 3)
        self.invalid(first, (("subclass", B, A), None), 3)
        self.invalid(first, [("subclass", A)], 2)
        self.invalid(tuple(first), [["subclass", B, A]], 2)

    def test_functional_axioms(self):
        self.invalid([("subclass", A, B), ("functional", R)], [("subrole", "s", "r")], 1)
        self.invalid([("functional", INTO_R), ("functional", S)], [("subclass", A, B), ("subrole_inverse", "r", "s")], 1)
        self.invalid([("subrole", "s", "r")], [("subclass", A, B), ("functional", R)], 2)
        self.invalid([("subrole", "s", "r")], [("functional", S), ("functional", R), None], 2)
        self.new([("subrole", "s", "r")], [("functional", S)])

    def test_too_many(self):
        axioms = all_axioms(["a", "b", "c"], ["r"], ["subclass"])
        self.assertEqual(new_consequences(axioms[:15], axioms[15:16])[1:], ([], []))
        self.invalid(axioms[:15], axioms[15:17], None)
        self.invalid(axioms[:16], axioms[:1], None)
        self.invalid([], axioms[:17], None)
        self.invalid(axioms[:10], [None] * 7, None)
        self.invalid(axioms[:10], [None] * 6, 10)

    def test_any_value(self):
        for value in STRANGE:
            if type(value) not in (list, tuple):
                self.invalid([("subclass", A, B)], value, None)
            elif len(value):
                self.invalid([("subclass", A, B)], value, 1)
        self.invalid([], {("subclass", A, B): 1}, None)
        self.invalid([], "subclass", None)

    def test_index_of_the_combined_list(self):
        rng = random.Random(191)
        axioms = all_axioms(["a"], ["r", "s"], ["subrole", "subrole_inverse", "functional", "disjoint"]) + [None, (), ("subclass", A)]
        wrong = 0
        for turn in range(300):
            ontology = random_ontology(rng, ["a"], ["r", "s"], positive=1, negative=1)
            more = [rng.choice(axioms) for number in range(rng.randrange(4))]
            try:
                check_ontology(ontology + more)
            except InvalidOntology as error:
                self.invalid(ontology, more, error.index)
                wrong += 1
            else:
                new_consequences(ontology, more)
        self.assertTrue(50 < wrong < 250, wrong)

    def test_random(self):
        rng = random.Random(192)
        seen = {"pairs": 0, "role_pairs": 0, "empty": 0, "none": 0}
        while min(seen.values()) < 25:
            ontology = random_ontology(rng, ["a", "b"], ["r", "s"], positive=rng.randrange(4), negative=rng.randrange(2))
            more = random_ontology(rng, ["a", "b"], ["r", "s", "q"], positive=rng.randrange(1, 3), negative=rng.randrange(3))
            try:
                check_ontology(ontology + more)
            except InvalidOntology:
                continue
            found = new_consequences(ontology, more)
            self.assertEqual(found, slow_new_consequences(ontology, more), (ontology, more))
            self.agrees_with_chains(ontology, ontology + more, found)
            for name, values in zip(seen, found):
                seen[name] += values != []
            seen["none"] += found == ([], [], [])

    def agrees_with_chains(self, ontology, combined, found):
        pairs, role_pairs, empty = found
        for one in concepts_of(ontology):
            gone = find_emptiness_certificate(combined, one) is not None
            self.assertEqual(one in empty, gone and find_emptiness_certificate(ontology, one) is None)
            for other in concepts_of(ontology):
                new = find_chain(combined, one, other) is not None and find_chain(ontology, one, other) is None
                self.assertEqual((one, other) in pairs, new and not gone)

    def test_new_lists_unchanged_arguments_and_names(self):
        ontology, more = [("subclass", A, B)], [("subclass", B, A)]
        before = copy.deepcopy((ontology, more))
        first, second = new_consequences(ontology, more), new_consequences(ontology=ontology, more=more)
        self.assertEqual((type(first), first), (tuple, second))
        self.assertEqual(len(set(aliases(first) + aliases(second) + aliases([ontology, more]))), 9)
        self.assertEqual((ontology, more), before)


if __name__ == "__main__":
    unittest.main()
