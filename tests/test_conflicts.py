import copy
import random
import unittest

from factsandfar.conflicts import find_conflict, is_conflict
from factsandfar.derivations import is_derivation
from factsandfar.models import is_model, is_model_table
from oracles import STRANGE, is_consistent, model_of, random_facts, random_ontology, with_parts_changed

T, U, V = ("p", "1"), ("p", "2"), ("q", "x1")
A, B, C = ("concept", "a"), ("concept", "b"), ("concept", "c")
GIVEN = ("given",)


def given(*facts):
    return [(fact, GIVEN) for fact in facts]


def says(fact, concept, t):
    """Point 7: whether a fact says that t belongs to a concept."""
    tag, name = concept
    if tag == "concept":
        return fact == ("concept", name, t)
    return fact[:2] == ("role", name) and len(fact) == 4 and fact[2 if tag == "out" else 3] == t


def clashes(axiom, one, other):
    """Point 8, word by word."""
    tag, first, second = axiom[0], axiom[1], axiom[-1]
    if tag == "disjoint":
        return any(says(one, first, t) and says(other, second, t) for t in one[2:])
    if one[0] != "role" or other[0] != "role":
        return False
    if tag == "disjoint_roles":
        return one[1] == first and other == ("role", second, one[2], one[3])
    if tag == "disjoint_inverse":
        return one[1] == first and other == ("role", second, one[3], one[2])
    if tag == "functional":
        same, free = (2, 3) if first[0] == "out" else (3, 2)
        return (one[1] == other[1] == first[1] and one[same] == other[same] and one[free] != other[free]
                and isinstance(one[free], tuple) and isinstance(other[free], tuple))
    return False


class IsConflict(unittest.TestCase):
    def orders(self, axiom, one, other, *, right, swapped):
        facts = [one] if one == other else [one, other]
        steps = given(one, other)
        self.assertIs(is_conflict([axiom], facts, (steps, 0, 0, 1)), right, (axiom, one, other))
        self.assertIs(is_conflict([axiom], facts, (steps, 0, 1, 0)), swapped, (axiom, other, one))

    def test_disjoint_concepts(self):
        axiom = ("disjoint", A, ("out", "r"))
        self.orders(axiom, ("concept", "a", T), ("role", "r", T, U), right=True, swapped=False)
        self.orders(axiom, ("concept", "a", U), ("role", "r", T, U), right=False, swapped=False)
        axiom = ("disjoint", ("in", "r"), A)
        self.orders(axiom, ("role", "r", T, U), ("concept", "a", U), right=True, swapped=False)
        self.orders(axiom, ("role", "r", T, U), ("concept", "a", T), right=False, swapped=False)
        axiom = ("disjoint", ("out", "r"), ("in", "s"))
        self.orders(axiom, ("role", "r", T, U), ("role", "s", V, T), right=True, swapped=False)
        self.orders(axiom, ("role", "r", T, U), ("role", "s", T, U), right=False, swapped=False)
        self.orders(("disjoint", A, B), ("concept", "a", T), ("concept", "b", T), right=True, swapped=False)
        self.orders(("disjoint", A, B), ("concept", "a", T), ("concept", "b", U), right=False, swapped=False)
        self.orders(("disjoint", ("concept", "r"), A), ("role", "r", T, U), ("concept", "a", T), right=False, swapped=False)

    def test_disjoint_roles(self):
        axiom = ("disjoint_roles", "r", "s")
        self.orders(axiom, ("role", "r", T, U), ("role", "s", T, U), right=True, swapped=False)
        self.orders(axiom, ("role", "r", T, U), ("role", "s", U, T), right=False, swapped=False)
        self.orders(axiom, ("role", "r", T, U), ("role", "s", T, V), right=False, swapped=False)
        self.orders(axiom, ("role", "r", T, T), ("role", "s", T, T), right=True, swapped=False)

    def test_disjoint_inverse(self):
        axiom = ("disjoint_inverse", "r", "s")
        self.orders(axiom, ("role", "r", T, U), ("role", "s", U, T), right=True, swapped=False)
        self.orders(axiom, ("role", "r", T, U), ("role", "s", T, U), right=False, swapped=False)
        self.orders(axiom, ("role", "r", T, T), ("role", "s", T, T), right=True, swapped=False)
        self.orders(("disjoint_inverse", "r", "r"), ("role", "r", T, U), ("role", "r", U, T), right=True, swapped=True)

    def test_functional(self):
        for axiom, same, turned in ((("functional", ("out", "r")), True, False), (("functional", ("in", "r")), False, True)):
            self.orders(axiom, ("role", "r", T, U), ("role", "r", T, V), right=same, swapped=same)
            self.orders(axiom, ("role", "r", U, T), ("role", "r", V, T), right=turned, swapped=turned)
            self.orders(axiom, ("role", "r", T, T), ("role", "r", T, U), right=same, swapped=same)
            self.orders(axiom, ("role", "r", T, U), ("role", "r", U, V), right=False, swapped=False)
            self.orders(axiom, ("role", "r", T, U), ("role", "r", T, U), right=False, swapped=False)
            self.orders(axiom, ("role", "r", T, U), ("role", "s", T, V), right=False, swapped=False)
            self.orders(axiom, ("role", "s", T, U), ("role", "s", T, V), right=False, swapped=False)
            self.orders(axiom, ("concept", "r", T), ("concept", "r", U), right=False, swapped=False)

    def test_concept_names_are_not_role_names(self):
        facts = [("concept", "r", T), ("role", "r", T, U)]
        for axiom in [("disjoint_roles", "r", "r"), ("disjoint_inverse", "r", "r"), ("functional", ("out", "r")), ("functional", ("in", "r"))]:
            self.orders(axiom, *facts, right=False, swapped=False)
            self.assertIsNone(find_conflict([axiom], facts[:1]))
        self.orders(("disjoint", ("concept", "r"), ("concept", "r")), *facts, right=False, swapped=False)

    def test_functional_axioms_need_named_individuals(self):
        ontology = [("functional", ("out", "r")), ("subclass", A, ("out", "r")), ("functional", ("in", "r")), ("subclass", A, ("in", "r"))]
        facts = [("concept", "a", T), ("role", "r", T, U), ("role", "r", U, T)]
        steps = given(*facts) + [(("role", "r", T, 3), ("axiom", 1, 0)), (("role", "r", T, 4), ("axiom", 1, 0)),
                                 (("role", "r", 5, T), ("axiom", 3, 0)), (("role", "r", 6, T), ("axiom", 3, 0))]
        self.assertIs(is_derivation(ontology, facts, steps), True)
        for index in (0, 2):
            for one in range(7):
                for other in range(7):
                    self.assertIs(is_conflict(ontology, facts, (steps, index, one, other)), False)

    def test_inclusions_have_no_conflicts(self):
        facts = [("concept", "a", T), ("role", "r", T, U), ("role", "s", T, U)]
        for axiom in [("subclass", A, ("out", "r")), ("subrole", "r", "s"), ("subrole_inverse", "r", "s")]:
            for one in range(3):
                for other in range(3):
                    self.assertIs(is_conflict([axiom], facts, (given(*facts), 0, one, other)), False)

    def test_equal_steps(self):
        for axiom, fact in [(("disjoint", A, A), ("concept", "a", T)), (("disjoint", ("out", "r"), ("in", "r")), ("role", "r", T, T)),
                            (("disjoint_roles", "r", "r"), ("role", "r", T, U)), (("disjoint_inverse", "r", "r"), ("role", "r", T, T)),
                            (("disjoint", ("in", "r"), ("in", "r")), ("role", "r", T, U))]:
            self.assertIs(is_conflict([axiom], [fact], (given(fact), 0, 0, 0)), True)
        for axiom, fact in [(("disjoint", ("out", "r"), ("in", "r")), ("role", "r", T, U)),
                            (("disjoint_inverse", "r", "r"), ("role", "r", T, U)), (("functional", ("out", "r")), ("role", "r", T, U))]:
            self.assertIs(is_conflict([axiom], [fact], (given(fact), 0, 0, 0)), False)

    def test_unnamed_individuals(self):
        ontology = [("subclass", A, ("out", "r")), ("subclass", ("in", "r"), B), ("disjoint", B, ("in", "r")), ("subrole", "r", "s"),
                    ("disjoint_roles", "r", "s"), ("subrole_inverse", "r", "t"), ("disjoint_inverse", "t", "r")]
        facts = [("concept", "a", T)]
        steps = given(*facts) + [(("role", "r", T, 1), ("axiom", 0, 0)), (("concept", "b", 1), ("axiom", 1, 1)),
                                 (("role", "s", T, 1), ("axiom", 3, 1)), (("role", "t", 1, T), ("axiom", 5, 1)),
                                 (("role", "r", T, 5), ("axiom", 0, 0))]
        conflicts = [(index, one, other) for index in range(7) for one in range(6) for other in range(6)
                     if is_conflict(ontology, facts, (steps, index, one, other))]
        self.assertEqual(conflicts, [(2, 2, 1), (4, 1, 3), (6, 4, 1)])

    def test_true_false_negative_and_large(self):
        ontology = [("disjoint", A, A), ("disjoint", A, A)]
        facts = [("concept", "a", T)]
        steps = given(*facts) * 2
        for index in (0, 1):
            for one in (0, 1):
                for other in (0, 1):
                    self.assertIs(is_conflict(ontology, facts, (steps, index, one, other)), True)
        for wrong in (False, True, -1, -2, 2, 99, 0.0, 1.0, "0", None, [0], (0,)):
            self.assertIs(is_conflict(ontology, facts, (steps, wrong, 0, 0)), False)
            self.assertIs(is_conflict(ontology, facts, (steps, 0, wrong, 0)), False)
            self.assertIs(is_conflict(ontology, facts, (steps, 0, 0, wrong)), False)

    def test_any_value_and_one_part_changed(self):
        ontology = [("disjoint", A, B), ("subclass", C, A), ("subclass", C, B)]
        facts = [("concept", "c", T)]
        steps = given(*facts) + [(("concept", "a", T), ("axiom", 1, 0)), (("concept", "b", T), ("axiom", 2, 0))]
        self.assertIs(is_conflict(ontology, facts, (steps, 0, 1, 2)), True)
        for candidate in STRANGE + [[steps, 0, 1, 2], (steps, 0, 1), (steps, 0, 1, 2, 2), (tuple(steps), 0, 1, 2), ([], 0, 0, 0)]:
            self.assertIs(is_conflict(ontology, facts, candidate), False)
        accepted = [candidate for candidate in with_parts_changed((steps, 0, 1, 2)) if is_conflict(ontology, facts, candidate)]
        repeated = steps + [(("concept", "b", T), ("axiom", 2, 0))]
        self.assertEqual(accepted, [(repeated, 0, 1, 2)])
        self.assertIs(is_conflict(ontology, [], (steps, 0, 1, 2)), False)
        self.assertIs(is_conflict(ontology[:2], facts, (steps, 0, 1, 2)), False)
        self.assertIs(is_conflict(ontology=ontology, facts=facts, candidate=(steps, 0, 1, 2)), True)


class FindConflict(unittest.TestCase):
    def found(self, ontology, facts):
        conflict = find_conflict(ontology, facts)
        self.assertIs(is_conflict(ontology, facts, conflict), True, (ontology, facts, conflict))
        derivation, index, one, other = conflict
        self.assertTrue(clashes(ontology[index], derivation[one][0], derivation[other][0]))
        return conflict

    def test_each_kind(self):
        for ontology, facts in [
            ([("disjoint", A, B)], [("concept", "b", T), ("concept", "a", T)]),
            ([("disjoint", ("in", "r"), A)], [("concept", "a", U), ("role", "r", T, U)]),
            ([("disjoint_roles", "r", "s")], [("role", "s", T, U), ("role", "r", T, U)]),
            ([("disjoint_inverse", "r", "s")], [("role", "s", U, T), ("role", "r", T, U)]),
            ([("disjoint_inverse", "r", "r")], [("role", "r", T, T)]),
            ([("functional", ("out", "r"))], [("role", "r", T, U), ("role", "r", T, T)]),
            ([("functional", ("in", "r"))], [("role", "r", T, U), ("role", "r", U, U)]),
            ([("subrole_inverse", "r", "s"), ("disjoint_roles", "s", "t")], [("role", "t", U, T), ("role", "r", T, U)]),
        ]:
            self.found(ontology, facts)
            for fact in facts if len(facts) > 1 else []:
                self.assertIsNone(find_conflict(ontology, [fact]))

    def test_consistent(self):
        for ontology, facts in [
            ([("disjoint", A, A)], []),
            ([], [("concept", "a", T), ("role", "r", T, T)]),
            ([("disjoint_roles", "r", "s")], [("role", "r", T, U), ("role", "s", U, T)]),
            ([("disjoint_inverse", "r", "s")], [("role", "r", T, U), ("role", "s", T, U)]),
            ([("functional", ("out", "r"))], [("role", "r", T, U), ("role", "r", V, U), ("role", "s", T, V)]),
            ([("functional", ("in", "r"))], [("role", "r", T, U), ("role", "r", T, V)]),
            ([("functional", ("out", "r")), ("subclass", A, ("out", "r"))], [("role", "r", T, U), ("concept", "a", T)]),
        ]:
            self.assertIsNone(find_conflict(ontology, facts))

    def test_a_concept_that_follows_is_empty(self):
        ontology = [("subclass", A, B), ("subclass", B, ("out", "r")), ("subrole", "r", "s"), ("disjoint_roles", "r", "s")]
        self.found(ontology, [("concept", "a", T)])
        self.found(ontology, [("concept", "b", T)])
        self.found(ontology, [("role", "r", T, U)])
        self.assertIsNone(find_conflict(ontology, [("role", "s", T, U)]))

    def test_a_concept_that_follows_for_an_unnamed_individual_is_empty(self):
        ontology = [("subclass", A, ("in", "r")), ("subclass", ("out", "r"), ("out", "s")), ("subclass", ("in", "s"), B), ("disjoint", B, B)]
        steps, index, one, other = self.found(ontology, [("concept", "a", T)])
        self.assertIsInstance(steps[one][0][2], int)
        self.found(ontology, [("role", "r", T, U)])
        self.found(ontology, [("role", "s", T, U)])
        self.assertIsNone(find_conflict(ontology, [("concept", "c", T)]))

    def test_sixteen_successors(self):
        names = "abcdefghijklmnop"
        ontology = [("subclass", ("in", one), ("out", other)) for one, other in zip(names, names[1:])]
        ontology.append(("disjoint", ("in", "p"), ("in", "p")))
        self.found(ontology, [("role", "a", T, U)])
        self.found(ontology, [("role", "a", T, T)])

    def test_none_exactly_if_consistent(self):
        rng = random.Random(31)
        counts = {True: 0, False: 0}
        for turn in range(400):
            ontology = random_ontology(rng, ["a", "b"], ["r", "s"], positive=rng.randrange(6), negative=rng.randrange(1, 4))
            facts = random_facts(rng, ["a", "b"], ["r", "s"], [T, U], rng.randrange(1, 4))
            if is_consistent(ontology, facts, 4):
                self.assertIsNone(find_conflict(ontology, facts), (ontology, facts))
                counts[True] += 1
            else:
                self.found(ontology, facts)
                counts[False] += 1
        self.assertGreater(min(counts.values()), 80)

    def test_there_is_a_model_exactly_if_there_is_no_conflict(self):
        rng = random.Random(33)
        counts = {True: 0, False: 0}
        for turn in range(600):
            names, roles = ["a", "b"], ["r", "s", "t"]
            ontology = random_ontology(rng, names, roles, positive=rng.randrange(9), negative=rng.randrange(1, 4))
            facts = random_facts(rng, names, roles, [T, U, V], rng.randrange(1, 5))
            model = model_of(ontology, facts, names, roles)
            consistent = find_conflict(ontology, facts) is None
            self.assertIs(is_model_table(model), True)
            self.assertIs(is_model(ontology, facts, model), consistent, (ontology, facts))
            counts[consistent] += 1
        self.assertGreater(min(counts.values()), 100)

    def test_changed_parts_are_accepted_only_if_they_are_conflicts(self):
        rng = random.Random(32)
        tried = 0
        while tried < 25:
            ontology = random_ontology(rng, ["a"], ["r", "s"], positive=4, negative=2)
            facts = random_facts(rng, ["a"], ["r", "s"], [T, U], 2)
            conflict = find_conflict(ontology, facts)
            if conflict is None:
                continue
            tried += 1
            for candidate in with_parts_changed(conflict):
                if is_conflict(ontology, facts, candidate):
                    derivation, index, one, other = candidate
                    self.assertIs(is_derivation(ontology, facts, derivation), True)
                    self.assertTrue(clashes(ontology[index], derivation[one][0], derivation[other][0]))
            for index in range(len(ontology)):
                for one in range(len(conflict[0])):
                    for other in range(len(conflict[0])):
                        expected = clashes(ontology[index], conflict[0][one][0], conflict[0][other][0])
                        self.assertIs(is_conflict(ontology, facts, (conflict[0], index, one, other)), expected)

    def test_many_facts(self):
        facts = [("role", "r", ("p", str(one)), ("q", str(one + 1))) for one in range(800)]
        ontology = [("disjoint_roles", "r", "s"), ("disjoint_inverse", "r", "r"), ("functional", ("out", "r")), ("functional", ("in", "r"))]
        self.assertIsNone(find_conflict(ontology, facts))
        self.found(ontology, facts + [("role", "r", ("p", "799"), ("q", "1"))])

    def test_new_lists_unchanged_arguments_and_names(self):
        ontology, facts = [("disjoint", A, B), ("subclass", A, B)], [("concept", "a", T)]
        before = copy.deepcopy((ontology, facts))
        kept = copy.deepcopy(find_conflict(ontology, facts))
        find_conflict(ontology, facts)[0].clear()
        self.assertEqual(find_conflict(ontology=ontology, facts=facts), kept)
        self.assertEqual((ontology, facts), before)
        self.assertIsNotNone(find_conflict(tuple(ontology), tuple(facts)))


if __name__ == "__main__":
    unittest.main()
