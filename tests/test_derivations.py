import copy
import random
import unittest

from factsandfar.derivations import derived_facts, find_derivation, is_derivation
from oracles import STRANGE, Graph, chased, facts_of, random_facts, random_ontology, with_parts_changed

T, U, V = ("p", "1"), ("p", "2"), ("q", "x1")
A, B, C = ("concept", "a"), ("concept", "b"), ("concept", "c")
GIVEN = ("given",)
A_T, R_TU = ("concept", "a", T), ("role", "r", T, U)


class SingleAxioms(unittest.TestCase):
    """Each kind of axiom in the second step, from a given fact in the first."""

    def accepts(self, axiom, given, fact):
        steps = [(given, GIVEN), (fact, ("axiom", 0, 0))]
        return is_derivation([axiom], [given], steps)

    def exactly(self, axiom, given, fact):
        """The fact, and no other fact over the same words and individuals, follows in the second step."""
        terms = [T, U, 0, 1, 2]
        every = [("concept", name, term) for name in "abrs" for term in terms]
        every += [("role", role, one, other) for role in "abrs" for one in terms for other in terms]
        accepted = [candidate for candidate in every if self.accepts(axiom, given, candidate)]
        self.assertEqual(accepted, [] if fact is None else [fact], (axiom, given))

    def test_subclass_from_each_concept(self):
        for end, fact in ((B, ("concept", "b", T)), (("out", "s"), ("role", "s", T, 1)), (("in", "s"), ("role", "s", 1, T))):
            self.exactly(("subclass", A, end), A_T, fact)
            self.exactly(("subclass", ("out", "r"), end), R_TU, fact)
            self.exactly(("subclass", ("in", "r"), end), ("role", "r", U, T), fact)
            self.exactly(("subclass", ("out", "r"), end), ("role", "r", T, T), fact)
            self.exactly(("subclass", ("in", "r"), end), ("role", "r", T, T), fact)
            self.exactly(("subclass", B, end), A_T, None)
            self.exactly(("subclass", ("out", "a"), end), A_T, None)
            self.exactly(("subclass", ("out", "s"), end), R_TU, None)
            self.exactly(("subclass", ("concept", "r"), end), R_TU, None)

    def test_subclass_of_itself(self):
        self.exactly(("subclass", A, A), A_T, A_T)
        self.exactly(("subclass", ("out", "r"), ("out", "r")), R_TU, ("role", "r", T, 1))
        self.exactly(("subclass", ("out", "r"), ("in", "r")), R_TU, ("role", "r", 1, T))

    def test_role_inclusions(self):
        self.exactly(("subrole", "r", "s"), R_TU, ("role", "s", T, U))
        self.exactly(("subrole", "r", "r"), R_TU, R_TU)
        self.exactly(("subrole_inverse", "r", "s"), R_TU, ("role", "s", U, T))
        self.exactly(("subrole_inverse", "r", "r"), R_TU, ("role", "r", U, T))
        for tag in ("subrole", "subrole_inverse"):
            self.exactly((tag, "s", "r"), R_TU, None)
            self.exactly((tag, "a", "r"), A_T, None)

    def test_the_other_axioms_derive_nothing(self):
        for axiom in [("disjoint", A, B), ("disjoint", ("out", "r"), B), ("disjoint_roles", "r", "s"), ("disjoint_inverse", "r", "s"),
                      ("functional", ("out", "r")), ("functional", ("in", "r"))]:
            self.exactly(axiom, A_T, None)
            self.exactly(axiom, R_TU, None)


class IsDerivation(unittest.TestCase):
    ontology = [("subclass", A, ("out", "r")), ("subclass", ("in", "r"), ("in", "s")), ("subrole_inverse", "s", "t"),
                ("subclass", ("out", "t"), B), ("subrole", "t", "u"), ("subclass", ("out", "r"), A)]
    facts = [A_T, ("role", "r", U, T)]
    steps = [
        (A_T, GIVEN),
        (("role", "r", T, 1), ("axiom", 0, 0)),
        (("role", "s", 2, 1), ("axiom", 1, 1)),
        (("role", "t", 1, 2), ("axiom", 2, 2)),
        (("concept", "b", 1), ("axiom", 3, 3)),
        (("role", "u", 1, 2), ("axiom", 4, 3)),
        (A_T, ("axiom", 5, 1)),
        (("role", "r", T, 7), ("axiom", 0, 6)),
        (("role", "r", U, T), GIVEN),
        (("concept", "a", U), ("axiom", 5, 8)),
    ]

    def check(self, steps):
        return is_derivation(self.ontology, self.facts, steps)

    def test_accepted(self):
        for count in range(1, len(self.steps) + 1):
            self.assertIs(self.check(self.steps[:count]), True)
        self.assertIs(is_derivation(tuple(self.ontology), tuple(self.facts), self.steps), True)
        self.assertIs(is_derivation(ontology=self.ontology, facts=self.facts, candidate=self.steps), True)

    def test_unnamed_individuals_are_numbered_by_their_step(self):
        """In another order the same facts need other numbers."""
        moved = [self.steps[8]] + self.steps[:2]
        self.assertIs(self.check(moved), False)
        moved[2] = (("role", "r", T, 2), ("axiom", 0, 1))
        self.assertIs(self.check(moved), True)
        for number in (0, 1, 3, -1, True, 2.0, "2", None, T):
            self.assertIs(self.check(moved[:2] + [(("role", "r", T, number), ("axiom", 0, 1))]), False)

    def test_a_given_fact_that_is_derived_again(self):
        self.assertIs(self.check(self.steps[:2] + [(A_T, ("axiom", 5, 1))]), True)
        self.assertIs(self.check([(A_T, GIVEN), (A_T, GIVEN)]), True)

    def test_facts_that_are_not_given(self):
        for fact in [("concept", "b", T), ("concept", "a", U), ("role", "r", T, U), ("role", "r", U, 0), ("concept", "a", 0)]:
            self.assertIs(self.check([(fact, GIVEN)]), False)
            self.assertIs(self.check([(A_T, GIVEN), (fact, GIVEN)]), False)
        self.assertIs(is_derivation([], [], [(A_T, GIVEN)]), False)

    def test_wrong_indexes(self):
        for reason in [("axiom", 1, 0), ("axiom", 6, 0), ("axiom", -6, 0), ("axiom", 0, 1), ("axiom", 0, 2), ("axiom", 0, -1),
                       ("axiom", False, 0), ("axiom", 0, False), ("axiom", 0.0, 0), ("axiom", 0, 0.0), ("axiom", "0", 0),
                       ("axiom", None, 0), ("axiom", 0), ("axiom", 0, 0, 0), ["axiom", 0, 0], ("given",), ("given", 0), (), None,
                       ("axioms", 0, 0), "given", ("axiom", [0], 0)]:
            self.assertIs(self.check([(A_T, GIVEN), (("role", "r", T, 1), reason)]), False, reason)
        self.assertIs(self.check([(A_T, GIVEN), (("role", "r", T, 1), ("axiom", 0, 0))]), True)
        self.assertIs(self.check([(("role", "r", T, 0), ("axiom", 0, 0))]), False)

    def test_true_and_false_are_not_indexes(self):
        ontology = [("subclass", A, A), ("subclass", A, B)]
        start = [(A_T, GIVEN), (A_T, ("axiom", 0, 0))]
        for reason, expected in ((("axiom", 1, 1), True), (("axiom", True, 1), False), (("axiom", 1, True), False),
                                 (("axiom", 1, 0), True), (("axiom", 1, False), False)):
            self.assertIs(is_derivation(ontology, [A_T], start + [(("concept", "b", T), reason)]), expected)
        ontology = [("subclass", A, ("out", "r")), ("subclass", ("in", "r"), B)]
        start = [(A_T, GIVEN), (("role", "r", T, 1), ("axiom", 0, 0))]
        for term, expected in ((1, True), (True, False), (1.0, False), ("1", False), ((1,), False)):
            self.assertIs(is_derivation(ontology, [A_T], start + [(("concept", "b", term), ("axiom", 1, 1))]), expected)
        self.assertIs(is_derivation(ontology, [A_T], [(A_T, GIVEN), (("role", "r", T, True), ("axiom", 0, 0))]), False)

    def test_numbers_of_steps(self):
        self.assertIs(self.check([]), False)
        self.assertIs(self.check([(A_T, GIVEN)]), True)
        self.assertIs(self.check([(A_T, GIVEN)] * 1000), True)
        self.assertIs(self.check([(A_T, GIVEN)] * 1001), False)
        ontology = [("subclass", A, ("out", "r")), ("subclass", ("out", "r"), A)]
        long = [(A_T, GIVEN)]
        while len(long) < 1001:
            at = len(long)
            long.append((("role", "r", T, at), ("axiom", 0, at - 1)) if at % 2 else (A_T, ("axiom", 1, at - 1)))
        self.assertIs(is_derivation(ontology, [A_T], long[:1000]), True)
        self.assertIs(is_derivation(ontology, [A_T], long), False)

    def test_one_part_changed(self):
        """A changed derivation is accepted only if it is one of the derivations that the words allow."""
        steps = self.steps[:4]
        accepted = [candidate for candidate in with_parts_changed(steps) if self.check(candidate)]
        allowed = [steps[:3], [steps[0]] + steps[:1] + steps[1:]]
        for candidate in accepted:
            self.assertTrue(self.follows(candidate), candidate)
        self.assertIn(allowed[0], accepted)
        self.assertNotIn(allowed[1], accepted)

    def follows(self, steps):
        """Whether each step's fact is what the document lets its axiom derive, read off one graph for each step."""
        for at, (fact, reason) in enumerate(steps):
            if reason == GIVEN and fact not in self.facts:
                return False
            if reason != GIVEN:
                axiom, earlier = self.ontology[reason[1]], steps[reason[2]][0]
                graph = Graph([earlier])
                if axiom[0] == "subrole":
                    expected = [("role", axiom[2], *pair) for pair in graph.pairs(axiom[1])]
                elif axiom[0] == "subrole_inverse":
                    expected = [("role", axiom[2], other, one) for one, other in graph.pairs(axiom[1])]
                else:
                    ends = {"concept": lambda t: (t,), "out": lambda t: (t, at), "in": lambda t: (at, t)}
                    tag = "concept" if axiom[2][0] == "concept" else "role"
                    expected = [(tag, axiom[2][1], *ends[axiom[2][0]](t)) for t in graph.members(axiom[1])]
                if fact not in expected or reason[2] >= at:
                    return False
        return True

    def test_any_value(self):
        for candidate in STRANGE + [[value] for value in STRANGE] + [[(A_T, value)] for value in STRANGE] + [
                [(value, GIVEN)] for value in STRANGE] + [tuple(self.steps), [list(step) for step in self.steps], self.steps[0]]:
            self.assertIs(self.check(candidate), False)

    def test_arguments_do_not_change(self):
        arguments = [list(self.ontology), list(self.facts), list(self.steps)]
        before = copy.deepcopy(arguments)
        is_derivation(*arguments)
        self.assertEqual(arguments, before)


class Derived(unittest.TestCase):
    def test_sorted_and_complete(self):
        rng = random.Random(21)
        names, roles, individuals = ["a", "b"], ["r", "s"], [T, U]
        every = random_facts(rng, names, roles, individuals, 99)
        for turn in range(100):
            ontology = random_ontology(rng, names, roles, positive=rng.randrange(8), negative=rng.randrange(3))
            facts = random_facts(rng, names, roles, individuals, rng.randrange(4))
            expected = facts_of(chased(ontology, facts, 2))
            self.assertEqual(derived_facts(ontology, facts), expected)
            for fact in every:
                steps = find_derivation(ontology, facts, fact)
                self.assertEqual(steps is None, fact not in expected)
                if steps is not None:
                    self.assertIs(is_derivation(ontology, facts, steps), True)
                    self.assertEqual(steps[-1][0], fact)

    def test_the_facts_of_a_derivation_hold_in_a_model(self):
        """Of point 3, (a): the chase is a model as far as it goes, and the derived facts are its facts."""
        rng = random.Random(22)
        for turn in range(40):
            ontology = random_ontology(rng, ["a", "b"], ["r", "s"], positive=rng.randrange(1, 7), negative=0)
            facts = random_facts(rng, ["a", "b"], ["r", "s"], [T, U, V], 3)
            graph = chased(ontology, facts, 3)
            self.assertTrue(all(graph.holds(axiom, 3) for axiom in ontology))
            found = Graph(derived_facts(ontology, facts))
            for name in found.names:
                self.assertLessEqual(found.names[name], graph.names[name])
            for role in found.roles:
                self.assertLessEqual(found.roles[role], graph.roles[role])

    def test_an_unnamed_individual_between(self):
        ontology = [("subclass", A, ("out", "r")), ("subrole_inverse", "r", "s"), ("subclass", ("in", "s"), B)]
        self.assertEqual(derived_facts(ontology, [A_T]), [A_T, ("concept", "b", T)])
        steps = find_derivation(ontology, [A_T], ("concept", "b", T))
        self.assertIs(is_derivation(ontology, [A_T], steps), True)
        self.assertEqual(steps, [(A_T, GIVEN), (("role", "r", T, 1), ("axiom", 0, 0)), (("role", "s", 1, T), ("axiom", 1, 1)),
                                 (("concept", "b", T), ("axiom", 2, 2))])

    def test_no_facts_about_named_individuals_from_unnamed_ones(self):
        ontology = [("subclass", A, ("out", "r")), ("subclass", ("in", "r"), B), ("subclass", ("out", "r"), ("out", "r"))]
        facts = [A_T, ("role", "r", T, U)]
        self.assertEqual(derived_facts(ontology, facts), [A_T, ("concept", "b", U), ("role", "r", T, U)])
        self.assertEqual(derived_facts(ontology, []), [])
        self.assertEqual(derived_facts([], facts[::-1]), sorted(facts))

    def test_a_long_way(self):
        names = "abcdefghijklmnop"
        ontology = [("subrole", one, other) for one, other in zip(names, names[1:])]
        ontology.append(("subclass", ("out", "p"), ("in", "a")))
        facts = [("role", "a", T, U)]
        found = derived_facts(ontology, facts)
        self.assertEqual(found, [("role", name, T, U) for name in names])
        for fact in found:
            self.assertIs(is_derivation(ontology, facts, find_derivation(ontology, facts, fact)), True)

    def test_none_for_every_other_value(self):
        ontology = [("subclass", A, ("out", "r"))]
        for fact in STRANGE + [("role", "r", T, 1), ("concept", "a", 0), ("concept", "a", "x"), list(A_T), ("concept", "a"),
                               ("concept", "a", T, T), ("concept", "a", U), ("concept", "A", T), [A_T], ("role", "a", T, T)]:
            self.assertIsNone(find_derivation(ontology, [A_T], fact))
        for fact in with_parts_changed(A_T):
            self.assertIsNone(find_derivation(ontology, [A_T], fact))

    def test_new_lists_unchanged_arguments_and_names(self):
        ontology, facts = [("subclass", A, B)], [A_T]
        before = copy.deepcopy((ontology, facts))
        for turn in range(2):
            found = derived_facts(ontology=ontology, facts=facts)
            steps = find_derivation(ontology=ontology, facts=facts, fact=A_T)
            self.assertEqual(found, [A_T, ("concept", "b", T)])
            self.assertEqual(steps, [(A_T, GIVEN)])
            found.clear()
            steps.clear()
        self.assertEqual((ontology, facts), before)
        self.assertEqual(derived_facts((), (A_T,)), [A_T])


if __name__ == "__main__":
    unittest.main()
