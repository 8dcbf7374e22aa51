import copy
import itertools
import random
import unittest

from factsandfar.answering import certain_answers, find_certificate, find_countermodel, is_certificate, is_countermodel
from factsandfar.conflicts import is_conflict
from factsandfar.derivations import is_derivation
from factsandfar.errors import Inconsistent, InvalidAnswer
from factsandfar.matching import holds_in_model
from factsandfar.models import is_model
from oracles import (
    STRANGE, aliases, is_consistent, known_individuals, model_of, random_facts, random_ontology, random_query, slow_certain_answers,
    variables_of, with_parts_changed)

T, U, V, Z = ("p", "1"), ("p", "2"), ("q", "x1"), ("z", "9")
A, B, C = ("concept", "a"), ("concept", "b"), ("concept", "c")


def is_right_certificate(ontology, facts, query, answer, candidate):
    """Point 12, word by word."""
    if type(candidate) is not tuple or len(candidate) != 3:
        return False
    derivation, assignment, steps = candidate
    if not is_derivation(ontology, facts, derivation) or type(assignment) is not dict or type(steps) is not tuple:
        return False
    if [key for key in assignment if type(key) is not str] or sorted(assignment) != variables_of(query) or len(steps) != len(query[1]):
        return False
    if not all(type(step) is int and 0 <= step < len(derivation) for step in steps):
        return False
    for pattern, step in zip(query[1], steps):
        if repr(pattern[:2] + tuple(assignment.get(term, term) for term in pattern[2:])) != repr(derivation[step][0]):
            return False
    return repr(tuple(assignment.get(term, term) for term in query[0])) == repr(answer)


class Answers(unittest.TestCase):
    def certain(self, ontology, facts, query, expected):
        """The answers are as expected, and every tuple of known and unknown individuals has exactly one of the two."""
        self.assertEqual(certain_answers(ontology, facts, query), expected, (ontology, facts, query))
        counts = {True: 0, False: 0}
        for answer in itertools.product(known_individuals(facts) + [Z, ("p", "one")], repeat=len(query[0])):
            counts[self.exactly_one(ontology, facts, query, answer)] += 1
        return counts

    def exactly_one(self, ontology, facts, query, answer):
        certificate = find_certificate(ontology, facts, query, answer)
        model = find_countermodel(ontology, facts, query, answer)
        known = answer in certain_answers(ontology, facts, query)
        self.assertEqual((certificate is None, model is None), (not known, known), (ontology, facts, query, answer))
        self.assertIs(is_certificate(ontology, facts, query, answer, certificate), known, certificate)
        self.assertIs(is_right_certificate(ontology, facts, query, answer, certificate), known)
        self.assertIs(is_countermodel(ontology, facts, query, answer, model), not known, model)
        if not known:
            self.assertIs(is_model(ontology, facts, model), True)
            self.assertIs(holds_in_model(model, query, answer), False)
        return known

    def test_without_axioms(self):
        facts = [("concept", "a", T), ("role", "r", T, U), ("role", "r", U, U)]
        self.certain([], facts, (("x",), (("concept", "a", "x"),)), [(T,)])
        self.certain([], facts, (("x",), (("role", "r", "x", "x"),)), [(U,)])
        self.certain([], facts, (("x", "y"), (("role", "r", "x", "y"),)), [(T, U), (U, U)])
        self.certain([], facts, ((), (("role", "r", "x", "y"), ("concept", "a", "y"))), [])
        self.certain([], [], ((), (("concept", "a", "x"),)), [])
        self.certain([], [], ((T,), (("concept", "a", "x"),)), [])

    def test_unnamed_individuals(self):
        ontology = [("subclass", A, ("out", "r")), ("subclass", ("in", "r"), B)]
        facts = [("concept", "a", T), ("concept", "b", U)]
        self.certain(ontology, facts, (("x",), (("role", "r", "x", "y"),)), [(T,)])
        self.certain(ontology, facts, (("y",), (("role", "r", "x", "y"),)), [])
        self.certain(ontology, facts, (("x",), (("role", "r", "x", "y"), ("concept", "b", "y"))), [(T,)])
        self.certain(ontology, facts, (("x",), (("concept", "b", "x"),)), [(U,)])
        self.certain(ontology, facts, ((), (("role", "r", "x", "y"), ("role", "r", "y", "z"))), [])
        self.certain(ontology + [("subclass", B, A)], facts, ((), (("role", "r", "x", "y"), ("role", "r", "y", "z"))), [()])

    def test_far_away(self):
        """The answer () holds only at unnamed nodes that are many steps away."""
        names = "abcdefghijklmno"
        ontology = [("subclass", ("in", one), ("out", other)) for one, other in zip(names, names[1:])] + [("subclass", ("in", "o"), A)]
        facts = [("role", "a", T, U)]
        self.certain(ontology, facts, ((), (("role", "o", "x", "y"), ("concept", "a", "y"))), [()])
        self.certain(ontology, facts, ((), (("role", "o", "x", "y"), ("role", "n", "z", "x"), ("role", "m", "w", "z"))), [()])
        self.certain(ontology, facts, ((), (("role", "o", "x", "y"), ("role", "m", "z", "x"))), [])
        self.certain(ontology, facts, (("x",), (("role", "b", "x", "y"), ("role", "c", "y", "z"), ("role", "d", "z", "w"))), [(U,)])
        steps = find_certificate(ontology, facts, ((), (("concept", "a", "x"), ("role", "h", "y", "z"))), ())[0]
        self.assertLessEqual(len(steps), 1000)

    def test_roles_back_and_forth(self):
        ontology = [("subclass", A, ("out", "r")), ("subrole_inverse", "r", "s"), ("subrole", "r", "t")]
        facts = [("concept", "a", T)]
        self.certain(ontology, facts, (("x",), (("role", "s", "y", "x"), ("role", "r", "x", "y"), ("role", "t", "x", "y"))), [(T,)])
        self.certain(ontology, facts, (("x", "z"), (("role", "s", "y", "x"), ("role", "t", "z", "y"))), [(T, T)])
        self.certain(ontology, facts, (("x",), (("role", "s", "x", "y"),)), [])
        self.certain(ontology, facts, ((), (("role", "s", "x", "y"), ("role", "r", "y", "x"))), [()])

    def test_functional_roles_and_disjointness(self):
        ontology = [("functional", ("out", "r")), ("subclass", A, ("out", "r")), ("subclass", ("in", "r"), B), ("disjoint", A, B)]
        self.certain(ontology, [("concept", "a", T), ("role", "r", T, U)], (("x",), (("concept", "b", "x"),)), [(U,)])
        self.certain(ontology, [("concept", "a", T)], (("x",), (("role", "r", "x", "y"), ("concept", "b", "y"))), [(T,)])

    def test_individuals_in_queries(self):
        ontology = [("subclass", A, ("out", "r")), ("subclass", ("in", "r"), B)]
        facts = [("concept", "a", T), ("role", "r", U, T)]
        self.certain(ontology, facts, (("x", V), (("role", "r", "x", T),)), [(U, V)])
        self.certain(ontology, facts, ((T,), (("role", "r", T, "x"), ("concept", "b", "x"))), [(T,)])
        self.certain(ontology, facts, ((), (("role", "r", T, U),)), [])
        self.certain(ontology, facts, ((Z, Z), (("concept", "b", "x"),)), [(Z, Z)])
        self.certain(ontology, facts, ((), (("concept", "b", T),)), [()])
        self.certain(ontology, facts, ((), (("concept", "b", Z),)), [])

    def test_answer_terms(self):
        facts = [("role", "r", T, U), ("role", "r", U, T), ("role", "r", U, U)]
        edge = (("role", "r", "x", "y"),)
        self.certain([], facts, (("x", "x"), edge), [(T, T), (U, U)])
        self.certain([], facts, (("y", "x"), edge), [(T, U), (U, T), (U, U)])
        self.certain([], facts, (("x", "y", "x"), edge), [(T, U, T), (U, T, U), (U, U, U)])
        self.certain([], facts, (("x", "z"), (("role", "r", "x", "x"), ("role", "r", "z", "y"))), [(U, T), (U, U)])
        self.certain([("subclass", ("in", "r"), ("out", "s"))], facts, (("x", "z"), (("role", "s", "x", "y"), ("role", "r", "z", "x"))),
                     [(T, U), (U, T), (U, U)])

    def test_against_what_follows(self):
        rng = random.Random(81)
        counts = {True: 0, False: 0}
        while min(counts.values()) < 200:
            names, roles = ["a", "b"], ["r", "s"]
            ontology = random_ontology(rng, names, roles, positive=rng.randrange(6), negative=rng.randrange(2))
            facts = random_facts(rng, names, roles, [T, U, V], rng.randrange(1, 5))
            query = random_query(rng, names, roles, [T, U, Z], most=3, answers=2)
            if len(known_individuals(facts)) > 2 and len(query[0]) > 1 or not is_model(ontology, facts, model_of(ontology, facts, names, roles)):
                continue
            expected = slow_certain_answers(ontology, facts, query) if len(ontology) < 6 else None
            if expected is not None:
                for known, number in self.certain(ontology, facts, query, expected).items():
                    counts[known] += number

    def test_no_further_model_has_fewer_answers(self):
        """An answer with a certificate holds in every model, not only in one: other models of the facts are tried."""
        rng = random.Random(82)
        tried = 0
        while tried < 400:
            names, roles = ["a", "b"], ["r", "s"]
            ontology = random_ontology(rng, names, roles, positive=rng.randrange(5), negative=rng.randrange(2))
            facts = random_facts(rng, names, roles, [T, U], rng.randrange(1, 4))
            more = facts + [fact for fact in random_facts(rng, names, roles, [T, U, V], 4) if fact not in facts]
            model = model_of(ontology, more, names, roles)
            if is_model(ontology, facts, model):
                query = random_query(rng, names, roles, [T, U])
                for answer in certain_answers(ontology, facts, query):
                    self.assertIs(holds_in_model(model, query, answer), True)
                    self.assertIs(is_countermodel(ontology, facts, query, answer, model), False)
                tried += 1

    def test_sixteen_axioms(self):
        rng = random.Random(83)
        counts = {True: 0, False: 0}
        while min(counts.values()) < 60:
            names, roles = ["a", "b", "c"], ["r", "s", "t", "u"]
            ontology = random_ontology(rng, names, roles, positive=15, negative=1)
            facts = random_facts(rng, names, roles, [T, U], rng.randrange(1, 4))
            query = random_query(rng, names, roles, [T, U], answers=1)
            try:
                expected = certain_answers(ontology, facts, query)
            except Inconsistent:
                continue
            for known, number in self.certain(ontology, facts, query, expected).items():
                counts[known] += number

    def test_many_facts(self):
        facts = [("role", "r", ("p", str(one)), ("p", str(one + 1))) for one in range(300)]
        ontology = [("subclass", ("in", "r"), ("out", "s")), ("subclass", ("in", "s"), A)]
        query = (("x", "y"), (("role", "r", "x", "y"), ("role", "s", "y", "z"), ("concept", "a", "z")))
        self.assertEqual(certain_answers(ontology, facts, query), sorted((fact[2], fact[3]) for fact in facts))
        self.exactly_one(ontology, facts, query, (("p", "7"), ("p", "8")))
        self.exactly_one(ontology, facts, query, (("p", "7"), ("p", "9")))

    def test_new_lists_unchanged_arguments_and_names(self):
        ontology, facts = [("subclass", A, ("out", "r"))], [("concept", "a", T), ("concept", "a", U)]
        query = (("x",), (("role", "r", "x", "y"),))
        before = copy.deepcopy((ontology, facts))
        for function, arguments in ((certain_answers, {"query": query}), (find_certificate, {"query": query, "answer": (T,)}),
                                    (find_countermodel, {"query": query, "answer": (V,)})):
            first = function(ontology=ontology, facts=facts, **arguments)
            second = function(tuple(ontology), tuple(facts), *arguments.values())
            self.assertEqual(first, second)
            ids = aliases(first) + aliases(second) + aliases((ontology, facts))
            self.assertEqual(len(set(ids)), len(ids))
        certificate = find_certificate(ontology, facts, query, (T,))
        model = find_countermodel(ontology, facts, query, (V,))
        self.assertIs(is_certificate(ontology=ontology, facts=facts, query=query, answer=(T,), candidate=certificate), True)
        self.assertIs(is_countermodel(ontology=ontology, facts=facts, query=query, answer=(V,), candidate=model), True)
        self.assertEqual((ontology, facts), before)


class Errors(unittest.TestCase):
    ontology, facts = [("disjoint", A, A)], [("concept", "a", T)]
    query = (("x",), (("concept", "a", "x"),))

    def test_inconsistent(self):
        for function, arguments in ((certain_answers, ()), (find_certificate, ((T,),)), (find_countermodel, ((T,),)),
                                    (find_certificate, ((Z,),)), (find_countermodel, ((Z,),))):
            with self.assertRaises(Inconsistent) as caught:
                function(self.ontology, self.facts, self.query, *arguments)
            self.assertIs(is_conflict(self.ontology, self.facts, caught.exception.certificate), True)

    def test_exactly_if_there_is_no_model(self):
        rng = random.Random(84)
        counts = {True: 0, False: 0}
        for turn in range(150):
            ontology = random_ontology(rng, ["a", "b"], ["r"], positive=rng.randrange(5), negative=rng.randrange(1, 4))
            facts = random_facts(rng, ["a", "b"], ["r"], [T, U], rng.randrange(1, 4))
            consistent = is_consistent(ontology, facts)
            try:
                certain_answers(ontology, facts, self.query)
                self.assertTrue(consistent)
            except Inconsistent:
                self.assertFalse(consistent)
            counts[consistent] += 1
        self.assertGreater(min(counts.values()), 30)

    def test_invalid_answers_come_first(self):
        wrong = STRANGE + [(), (T, T), [T], T, (list(T),), ("x",), (0,), (("p", "A"),), (("p", 1),), ((T,),)]
        for ontology in ([], self.ontology):
            for answer in wrong:
                self.assertRaises(InvalidAnswer, find_certificate, ontology, self.facts, self.query, answer)
                self.assertRaises(InvalidAnswer, find_countermodel, ontology, self.facts, self.query, answer)
        self.assertRaises(InvalidAnswer, find_certificate, [], self.facts, ((), (("concept", "a", "x"),)), (T,))
        self.assertRaises(InvalidAnswer, find_countermodel, [], self.facts, ((), (("concept", "a", "x"),)), (T,))


class Certificates(unittest.TestCase):
    ontology = [("subclass", A, ("out", "r")), ("subclass", ("in", "r"), B)]
    facts = [("concept", "a", T), ("concept", "b", U)]
    query = (("x",), (("role", "r", "x", "y"), ("concept", "b", "y")))
    right = ([(("concept", "a", T), ("given",)), (("role", "r", T, 1), ("axiom", 0, 0)), (("concept", "b", 1), ("axiom", 1, 1))],
             {"x": T, "y": 1}, (1, 2))

    def check(self, candidate, expected, answer=(T,)):
        self.assertIs(is_certificate(self.ontology, self.facts, self.query, answer, candidate), expected, candidate)

    def test_accepted(self):
        self.check(self.right, True)
        steps, assignment, at = self.right
        self.check((steps + [(("concept", "b", U), ("given",))], assignment, at), True)
        self.check((steps, {"y": 1, "x": T}, at), True)

    def test_parts_that_do_not_fit(self):
        steps, assignment, at = self.right
        for wrong in [(steps, assignment, (2, 1)), (steps, assignment, (1,)), (steps, assignment, (1, 2, 2)), (steps, assignment, [1, 2]),
                      (steps, assignment, (1, 3)), (steps, assignment, (1, -1)), (steps, assignment, (True, 2)), (steps, {"x": T}, at),
                      (steps, {"x": T, "y": 1, "z": 1}, at), (steps, {"x": T, "y": True}, at), (steps, {"x": T, "y": 1.0}, at),
                      (steps, {"x": T, "y": 2}, at), (steps, {"x": U, "y": 1}, at), (steps, {"x": T, "y": "1"}, at), (steps, [], at),
                      (steps[:2], assignment, at), (steps[:2], assignment, (1, 1)), (steps[1:], assignment, at), ([], assignment, at),
                      (tuple(steps), assignment, at), list(self.right), self.right[:2], self.right + ((),), (steps, {"x": T, 1: 1}, at)]:
            self.check(wrong, False)

    def test_other_arguments(self):
        self.check(self.right, False, (U,))
        self.check(self.right, False, (Z,))
        for ontology, facts, query in [(self.ontology[:1], self.facts, self.query), (self.ontology, [], self.query), ([], self.facts, self.query),
                                       (self.ontology, self.facts, (("x",), (("role", "r", "x", "y"),))),
                                       (self.ontology, self.facts, (("x",), (("role", "s", "x", "y"), ("concept", "b", "y")))),
                                       (self.ontology, self.facts, (("x",), (("role", "r", "x", "z"), ("concept", "b", "z"))))]:
            self.assertIs(is_certificate(ontology, facts, query, (T,), self.right), False)

    def test_an_unnamed_individual_is_no_answer(self):
        query = (("y",), (("role", "r", "x", "y"), ("concept", "b", "y")))
        for answer in ((1,), (T,), (True,), ("y",), (("p", 1),)):
            self.assertIs(is_certificate(self.ontology, self.facts, query, answer, self.right), False)

    def test_individuals_in_the_query(self):
        steps, assignment, at = self.right
        query = ((U, T), (("role", "r", T, "y"), ("concept", "b", "y")))
        self.assertIs(is_certificate(self.ontology, self.facts, query, (U, T), (steps, {"y": 1}, at)), True)
        self.assertIs(is_certificate(self.ontology, self.facts, query, (T, U), (steps, {"y": 1}, at)), False)
        self.assertIs(is_certificate(self.ontology, self.facts, query, (U, T), self.right), False)

    def test_any_value(self):
        for strange in STRANGE:
            self.check(strange, False)
            self.check(self.right, False, strange)
            self.check(self.right, False, (strange,))
            for part in range(3):
                self.check(self.right[:part] + (strange,) + self.right[part + 1:], False)

    def test_one_part_changed(self):
        accepted = 0
        for candidate in with_parts_changed(self.right):
            expected = is_right_certificate(self.ontology, self.facts, self.query, (T,), candidate)
            self.check(candidate, expected)
            accepted += expected
        self.assertLess(accepted, 5)

    def test_found_ones_with_one_part_changed(self):
        rng = random.Random(85)
        tried = 0
        while tried < 12:
            ontology = random_ontology(rng, ["a", "b"], ["r"], positive=4, negative=0)
            facts = random_facts(rng, ["a", "b"], ["r"], [T, U], 2)
            query = random_query(rng, ["a", "b"], ["r"], [T, U], most=2, answers=1)
            answers = certain_answers(ontology, facts, query)
            if answers:
                tried += 1
                certificate = find_certificate(ontology, facts, query, answers[0])
                for candidate in with_parts_changed(certificate):
                    self.assertIs(is_certificate(ontology, facts, query, answers[0], candidate),
                                  is_right_certificate(ontology, facts, query, answers[0], candidate), candidate)

    def test_inconsistent_facts(self):
        ontology, facts = [("disjoint", A, A)], [("concept", "a", T)]
        self.assertIs(is_certificate(ontology, facts, (("x",), (("concept", "a", "x"),)), (T,), ([(facts[0], ("given",))], {"x": T}, (0,))), True)


class Countermodels(unittest.TestCase):
    ontology = [("subclass", A, ("out", "r"))]
    facts = [("concept", "a", T)]
    query = (("x",), (("role", "r", "x", "y"), ("concept", "b", "y")))
    right = ([("concept", "a", T)], {T: [0]}, [((("out", "r"),), ("c",), ())])

    def check(self, candidate, expected, answer=(T,)):
        self.assertIs(is_countermodel(self.ontology, self.facts, self.query, answer, candidate), expected, candidate)

    def test_accepted_and_rejected(self):
        self.check(self.right, True)
        self.check(self.right, True, (U,))
        has_it = (self.right[0], {T: [0]}, [((("out", "r"),), ("b", "c"), ())])
        self.check(has_it, False)
        self.check(has_it, True, (U,))
        self.check((self.right[0], {}, []), False)
        self.check(([], {T: [0]}, self.right[2]), False)
        self.check((self.right[0] + [("role", "r", T, U)], {}, []), True)
        self.check((self.right[0] + [("role", "r", T, U), ("concept", "b", U)], {}, []), False)

    def test_any_value(self):
        for strange in STRANGE:
            self.check(strange, False)
            self.check(self.right, False, strange)
            self.check(self.right, False, (strange,))
            for part in range(3):
                self.check(self.right[:part] + (strange,) + self.right[part + 1:], False)
        for answer in ((T, T), [T], T, ("x",), (0,), (("p", "A"),)):
            self.check(self.right, False, answer)

    def test_one_part_changed(self):
        counts = {True: 0, False: 0}
        for candidate in with_parts_changed(self.right):
            found = is_countermodel(self.ontology, self.facts, self.query, (T,), candidate)
            if not is_model(self.ontology, self.facts, candidate):
                self.assertIs(found, False)
            else:
                self.assertIs(found, not holds_in_model(candidate, self.query, (T,)))
            counts[found] += 1
        self.assertGreater(counts[False], 100)

    def test_inconsistent_facts(self):
        self.assertIs(is_countermodel([("disjoint", A, A)], self.facts, self.query, (T,), self.right), False)


if __name__ == "__main__":
    unittest.main()
