import copy
import itertools
import random
import unittest

from factsandfar.errors import InvalidConcept, LimitExceeded
from factsandfar.subsumption import chain_justifications, find_chain, is_chain, superconcepts
from oracles import INCLUSIONS, STRANGE, TAGS, all_axioms, all_concepts, chased, random_ontology, with_parts_changed

A, B, C = ("concept", "a"), ("concept", "b"), ("concept", "c")
NO_DIRECTIONS = STRANGE + [A, ("out", "R"), ("out", "r", "s"), ("role", "r"), ("out", ""), ["out", "r"], ("in", "r1")]
NO_CONCEPTS = [value for value in NO_DIRECTIONS if value is not A]


def leads(axiom):
    """Point 5, word by word: the pairs (from, to) of an axiom."""
    if axiom[0] == "subclass":
        return [(axiom[1], axiom[2])]
    r, s = axiom[1], axiom[-1]
    if axiom[0] == "subrole":
        return [(("out", r), ("out", s)), (("in", r), ("in", s))]
    if axiom[0] == "subrole_inverse":
        return [(("out", r), ("in", s)), (("in", r), ("out", s))]
    return []


def reaches(ontology, indexes, one, other):
    """True if the axioms with these indexes suffice for a chain."""
    reached = {one}
    for turn in range(40):
        reached |= {end for index in indexes for start, end in leads(ontology[index]) if start in reached}
    return other in reached


def leads_along(ontology, one, other, chain, roles_only):
    places = {one}
    for index in chain:
        if roles_only and ontology[index][0] == "subclass":
            return False
        places = {end for start, end in leads(ontology[index]) if start in places}
    return other in places


def stages(count):
    """Two axioms for each stage from out ra to out rb, from there to out rc, and so on."""
    names = ["r" + letter for letter in "abcdefghi"]
    pairs = [(names[at], names[at + 1]) for at in range(count)]
    return [axiom for r, s in pairs for axiom in (("subrole", r, s), ("subclass", ("out", r), ("out", s)))]


class Superconcepts(unittest.TestCase):
    def test_itself_whatever_the_ontology(self):
        for concept in all_concepts(["a", "zz"], ["r"]):
            self.assertEqual(superconcepts([], concept), [concept])
            self.assertEqual(superconcepts([("disjoint", concept, concept), ("subclass", B, C)], concept), [concept])

    def test_each_axiom(self):
        self.assertEqual(superconcepts([("subclass", A, ("in", "r"))], A), [A, ("in", "r")])
        self.assertEqual(superconcepts([("subclass", A, ("in", "r"))], ("in", "r")), [("in", "r")])
        self.assertEqual(superconcepts([("subrole", "r", "s")], ("out", "r")), [("out", "r"), ("out", "s")])
        self.assertEqual(superconcepts([("subrole", "r", "s")], ("in", "r")), [("in", "r"), ("in", "s")])
        self.assertEqual(superconcepts([("subrole_inverse", "r", "s")], ("out", "r")), [("in", "s"), ("out", "r")])
        self.assertEqual(superconcepts([("subrole_inverse", "r", "s")], ("in", "r")), [("in", "r"), ("out", "s")])
        for tag in ("disjoint", "disjoint_roles", "disjoint_inverse", "functional"):
            for axiom in all_axioms(["a", "b"], ["r", "s"], [tag]):
                for concept in all_concepts(["a", "b"], ["r", "s"]):
                    self.assertEqual(superconcepts([axiom], concept), [concept])

    def test_concept_names_are_not_role_names(self):
        self.assertEqual(superconcepts([("subrole", "r", "s"), ("subrole_inverse", "r", "s")], ("concept", "r")), [("concept", "r")])

    def test_wrong_concepts(self):
        for wrong in NO_CONCEPTS:
            with self.assertRaises(InvalidConcept):
                superconcepts([("subclass", A, B)], wrong)

    def test_what_follows_for_a_member(self):
        """Of point 3, (f) for chains: the superconcepts are what a member of a concept belongs to in all models."""
        rng = random.Random(5)
        facts = {"concept": ("concept", "a", 0), "out": ("role", "r", 0, 1), "in": ("role", "r", 1, 0)}
        for turn in range(150):
            ontology = random_ontology(rng, ["a", "b", "c"], ["r", "s"], positive=rng.randrange(8), negative=2)
            for tag, fact in facts.items():
                graph = chased(ontology, [fact], 1)
                start = (tag, fact[1])
                expected = [concept for concept in all_concepts(["a", "b", "c"], ["r", "s"]) if 0 in graph.members(concept)]
                self.assertEqual(superconcepts(ontology, start), sorted(expected))

    def test_new_list_and_unchanged_arguments(self):
        ontology = [("subclass", A, B)]
        found = superconcepts(ontology, A)
        found.append(None)
        self.assertEqual(superconcepts(ontology=ontology, concept=A), [A, B])
        self.assertEqual(superconcepts(tuple(ontology), A), [A, B])
        self.assertEqual(ontology, [("subclass", A, B)])


class FindChain(unittest.TestCase):
    def test_the_empty_chain(self):
        for concept in all_concepts(["a"], ["r"]):
            self.assertEqual(find_chain([], concept, concept), [])
            self.assertEqual(find_chain([("subclass", concept, concept)], concept, concept), [])
        self.assertEqual(find_chain([("subrole", "r", "r")], ("in", "r"), ("in", "r"), roles_only=True), [])

    def test_shortest_and_accepted_or_none(self):
        rng = random.Random(6)
        concepts = all_concepts(["a", "b"], ["r", "s"])
        for turn in range(200):
            ontology = random_ontology(rng, ["a", "b"], ["r", "s"], positive=rng.randrange(9), negative=rng.randrange(4))
            for roles_only in (False, True):
                usable = [axiom for axiom in ontology if axiom[0] != "subclass" or not roles_only]
                for one in concepts[2 if roles_only else 0:]:
                    lengths = {one: 0}
                    for length in range(1, 20):
                        ends = {end for axiom in usable for start, end in leads(axiom) if start in lengths}
                        lengths.update({end: length for end in ends if end not in lengths})
                    for other in concepts[2 if roles_only else 0:]:
                        chain = find_chain(ontology, one, other, roles_only=roles_only)
                        if other not in lengths:
                            self.assertIsNone(chain)
                        else:
                            self.assertEqual(len(chain), lengths[other])
                            self.assertTrue(leads_along(ontology, one, other, chain, roles_only))
                            self.assertIs(is_chain(ontology, one, other, chain, roles_only=roles_only), True)

    def test_an_axiom_twice_in_a_shortest_chain(self):
        names = "abcdefghijklmnop"
        ontology = [("subrole", one, other) for one, other in zip(names, names[1:])]
        ontology.append(("subclass", ("out", "p"), ("in", "a")))
        chain = find_chain(ontology, ("out", "a"), ("in", "p"))
        self.assertEqual(chain, list(range(15)) + [15] + list(range(15)))
        self.assertIs(is_chain(ontology, ("out", "a"), ("in", "p"), chain), True)

    def test_not_longer_than_forty(self):
        names = [one + other for one in "abcdef" for other in "abcdefgh"][:42]
        concepts = [("concept", name) for name in names]
        ontology = [("subclass", one, other) for one, other in zip(concepts, concepts[1:])]
        self.assertEqual(find_chain(ontology, concepts[0], concepts[40]), list(range(40)))
        self.assertIsNone(find_chain(ontology, concepts[0], concepts[41]))
        self.assertEqual(superconcepts(ontology, concepts[0]), sorted(concepts[:41]))
        self.assertEqual(chain_justifications(ontology, concepts[0], concepts[40]), [tuple(range(40))])
        self.assertEqual(chain_justifications(ontology, concepts[0], concepts[41]), [])

    def test_roles_only(self):
        ontology = [("subclass", ("out", "r"), ("out", "s")), ("subrole", "r", "t"), ("subrole", "t", "s")]
        self.assertEqual(find_chain(ontology, ("out", "r"), ("out", "s")), [0])
        self.assertEqual(find_chain(ontology, ("out", "r"), ("out", "s"), roles_only=False), [0])
        self.assertEqual(find_chain(ontology, ("out", "r"), ("out", "s"), roles_only=True), [1, 2])
        self.assertIsNone(find_chain(ontology[:1], ("out", "r"), ("out", "s"), roles_only=True))
        with self.assertRaises(TypeError):
            find_chain(ontology, ("out", "r"), ("out", "s"), True)
        with self.assertRaises(TypeError):
            is_chain(ontology, ("out", "r"), ("out", "s"), [0], True)

    def test_wrong_concepts(self):
        for wrong in NO_CONCEPTS:
            for one, other in ((wrong, A), (A, wrong), (wrong, wrong)):
                with self.assertRaises(InvalidConcept):
                    find_chain([], one, other)
                with self.assertRaises(InvalidConcept):
                    chain_justifications([], one, other)
        for wrong in NO_DIRECTIONS:
            for one, other in ((wrong, ("out", "r")), (("out", "r"), wrong), (wrong, wrong)):
                with self.assertRaises(InvalidConcept):
                    find_chain([], one, other, roles_only=True)

    def test_new_lists_unchanged_arguments_and_names(self):
        ontology = [("subclass", A, B)]
        for end in (A, B):
            chain = find_chain(ontology, A, end)
            chain.append(7)
            self.assertEqual(find_chain(other=end, one=A, ontology=ontology), chain[:-1])
        self.assertEqual(ontology, [("subclass", A, B)])


class IsChain(unittest.TestCase):
    def test_all_short_lists(self):
        rng = random.Random(7)
        concepts = all_concepts(["a"], ["r", "s"])
        for turn in range(12):
            ontology = random_ontology(rng, ["a"], ["r", "s"], positive=4, negative=1)
            for length in range(4):
                for chain in itertools.product(range(5), repeat=length):
                    for one in concepts:
                        for other in concepts:
                            for roles_only in (False, True):
                                expected = leads_along(ontology, one, other, chain, roles_only)
                                found = is_chain(ontology, one, other, list(chain), roles_only=roles_only)
                                self.assertIs(found, expected)

    def test_forty_and_forty_one(self):
        ontology = [("subclass", A, A), ("subrole", "r", "r"), ("subrole_inverse", "r", "r")]
        self.assertIs(is_chain(ontology, A, A, [0] * 40), True)
        self.assertIs(is_chain(ontology, A, A, [0] * 41), False)
        self.assertIs(is_chain(ontology, ("out", "r"), ("out", "r"), [1, 2] * 20, roles_only=True), True)
        self.assertIs(is_chain(ontology, ("out", "r"), ("in", "r"), [1, 2] * 20), False)
        self.assertIs(is_chain(ontology, ("out", "r"), ("in", "r"), [2] * 39), True)
        self.assertIs(is_chain(ontology, ("out", "r"), ("in", "r"), [2] * 41), False)

    def test_the_empty_list(self):
        for concept in all_concepts(["a"], ["r"]):
            self.assertIs(is_chain([], concept, concept, []), True)
            self.assertIs(is_chain([], concept, concept, [], roles_only=True), True)
            self.assertIs(is_chain([], concept, B, []), False)

    def test_true_false_negative_and_large(self):
        ontology = [("subclass", A, A), ("subclass", A, B)]
        self.assertIs(is_chain(ontology, A, B, [0, 1]), True)
        for chain in ([False, 1], [0, True], [True], [0, -1], [-1], [-2, 1], [2], [0, 1, 2], [0.0, 1], [1.0], ["1"], [None],
                      [[1]], [(1,)], [99], [10 ** 20]):
            self.assertIs(is_chain(ontology, A, B, chain), False, chain)
        self.assertIs(is_chain([("subclass", A, B)], A, B, [False]), False)
        self.assertIs(is_chain([("subclass", A, B)], A, B, [-1]), False)

    def test_any_value(self):
        ontology = [("subclass", A, B), ("subclass", B, C)]
        for candidate in STRANGE:
            self.assertIs(is_chain(ontology, A, C, candidate), False)
        for candidate in with_parts_changed([0, 1]):
            self.assertIs(is_chain(ontology, A, C, candidate), False)
        self.assertIs(is_chain(ontology, A, C, (0, 1)), False)
        self.assertIs(is_chain(ontology, A, A, ()), False)
        self.assertIs(is_chain(ontology=ontology, one=A, other=C, candidate=[0, 1], roles_only=False), True)


class ChainJustifications(unittest.TestCase):
    def expected(self, ontology, one, other):
        found = []
        for size in range(len(ontology) + 1):
            for indexes in itertools.combinations(range(len(ontology)), size):
                if not any(set(less) <= set(indexes) for less in found) and reaches(ontology, indexes, one, other):
                    found.append(indexes)
        return sorted(found)

    def test_all_minimal_sets(self):
        rng = random.Random(8)
        for turn in range(40):
            ontology = random_ontology(rng, ["a"], ["r", "s"], positive=rng.randrange(1, 8), negative=rng.randrange(2))
            for one in all_concepts(["a"], ["r"]):
                for other in all_concepts(["a"], ["r", "s"]):
                    self.assertEqual(chain_justifications(ontology, one, other), self.expected(ontology, one, other))

    def test_a_concept_and_itself_and_no_chain(self):
        for concept in all_concepts(["a"], ["r"]):
            self.assertEqual(chain_justifications([("subclass", concept, concept)], concept, concept), [()])
            self.assertEqual(chain_justifications([], concept, concept), [()])
            self.assertEqual(chain_justifications([("subclass", B, concept)], concept, B), [])

    def test_an_axiom_that_is_used_twice_counts_once(self):
        ontology = [("subclass", ("out", "s"), ("in", "r")), ("subrole", "r", "s"), ("subclass", ("in", "r"), ("in", "s"))]
        self.assertEqual(chain_justifications(ontology, ("out", "r"), ("in", "s")), [(0, 1)])

    def test_sixty_four_and_more(self):
        start, end = ("out", "ra"), ("out", "rg")
        found = chain_justifications(stages(6), start, end)
        self.assertEqual(found, sorted(itertools.product((0, 1), (2, 3), (4, 5), (6, 7), (8, 9), (10, 11))))
        for more in (stages(6) + [("subclass", start, end)], stages(7) + [("subrole", "rh", "rg")]):
            with self.assertRaises(LimitExceeded) as caught:
                chain_justifications(more, start, end if len(more) == 13 else ("out", "rh"))
            self.assertEqual(caught.exception.limit, 64)

    def test_many_sets_elsewhere_are_no_obstacle(self):
        ontology = stages(7) + [("subclass", ("out", "ra"), A), ("subclass", ("out", "rh"), A)]
        self.assertEqual(chain_justifications(ontology, ("out", "ra"), ("concept", "b")), [])
        self.assertEqual(chain_justifications(ontology[:15], ("out", "ra"), A), [(14,)])

    def test_many_sets_that_are_not_minimal(self):
        ontology = stages(7) + [("subclass", ("out", "rh"), ("in", "ra"))]
        every_subrole = tuple(range(0, 14, 2)) + (14,)
        self.assertEqual(chain_justifications(ontology, ("out", "ra"), ("in", "rh")), [every_subrole])

    def test_new_lists_unchanged_arguments_and_names(self):
        ontology = stages(2)
        before = copy.deepcopy(ontology)
        found = chain_justifications(ontology, ("out", "ra"), ("out", "rc"))
        found.clear()
        again = chain_justifications(ontology=tuple(ontology), one=("out", "ra"), other=("out", "rc"))
        self.assertEqual(again, [(0, 2), (0, 3), (1, 2), (1, 3)])
        self.assertEqual(ontology, before)


class Separation(unittest.TestCase):
    def test_a_chain_in_one_ontology_only_is_seen_in_the_models(self):
        """Of point 3, (f): where two ontologies have different chains, one fact tells them apart."""
        rng = random.Random(9)
        concepts = all_concepts(["a", "b"], ["r"])
        for turn in range(60):
            one, other = [random_ontology(rng, ["a", "b"], ["r"], positive=4, negative=0) for side in range(2)]
            for start, fact in ((("concept", "a"), ("concept", "a", 0)), (("in", "r"), ("role", "r", 1, 0))):
                graphs = [chased(ontology, [fact], 1) for ontology in (one, other)]
                for end in concepts:
                    for ontology, graph in zip((one, other), graphs):
                        chained = find_chain(ontology, start, end) is not None
                        self.assertEqual(chained, 0 in graph.members(end))

    def test_only_inclusions_lead_anywhere(self):
        for axiom in all_axioms(["a", "b"], ["r", "s"], TAGS):
            ends = [find_chain([axiom], one, other) for one in all_concepts(["a", "b"], ["r", "s"])
                    for other in all_concepts(["a", "b"], ["r", "s"]) if one != other]
            steps = len([end for end in ends if end == [0]])
            self.assertEqual(steps, len([pair for pair in leads(axiom) if pair[0] != pair[1]]))
            self.assertEqual(steps > 0, axiom[0] in INCLUSIONS and axiom[1] != axiom[2] or axiom[0] == "subrole_inverse")


if __name__ == "__main__":
    unittest.main()
