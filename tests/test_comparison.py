import copy
import itertools
import random
import unittest

from factsandfar.comparison import compare_ontologies, is_difference
from oracles import (
    STRANGE, TAGS, aliases, all_axioms, chased, goals_in, is_consistent, is_individual, is_pattern, is_slow_query, random_facts,
    random_ontology, random_query, slow_answers, slow_certain_answers, with_parts_changed)

A, B, C = ("concept", "a"), ("concept", "b"), ("concept", "c")
ONE, TWO, THREE = ("p", "1"), ("p", "2"), ("p", "3")


def is_slow_difference(one, other, value):
    """Point 24, word by word."""
    if type(value) is not tuple or len(value) != 3 or type(value[0]) is not int or value[0] not in (0, 1):
        return False
    which, facts, query = value
    if type(facts) not in (list, tuple) or len(facts) not in (1, 2) or not all(is_pattern(fact, is_individual) for fact in facts):
        return False
    if len(set(facts)) < len(facts):
        return False
    having, lacking = (one, other)[which], (other, one)[which]
    consistent = is_consistent(having, facts), is_consistent(lacking, facts)
    if query is None:
        return consistent == (False, True)
    if not is_slow_query(query) or query[0] != () or consistent != (True, True):
        return False
    return slow_certain_answers(having, facts, query) == [()] and slow_certain_answers(lacking, facts, query) == []


def small_facts(names, roles):
    """One fact, or two, about at most three individuals; up to the names of individuals, all of them."""
    first = [("concept", name, ONE) for name in names] + [("role", role, ONE, other) for role in roles for other in (ONE, TWO)]
    second = [("concept", name, other) for name in names for other in (ONE, TWO, THREE)]
    second += [("role", role, *pair) for role in roles for pair in itertools.product((ONE, TWO, THREE), repeat=2)]
    return [[fact] for fact in first] + [[fact, more] for fact in first for more in second if more != fact]


def small_queries(names, roles):
    """Queries without answer terms, of one pattern or of two that share a variable."""
    terms = (ONE, TWO, "x", "y")
    single = [("concept", name, term) for name in names for term in terms[:3]]
    single += [("role", role, *pair) for role in roles for pair in itertools.product(terms, repeat=2)]
    double = [(("role", role, ONE, "x"), more) for role in roles for more in
              [("concept", name, "x") for name in names] + [("role", again, *pair) for again in roles for pair in (("x", "y"), ("y", "x"), ("x", ONE), (ONE, "x"))]]
    double += [(("role", role, "x", ONE), more) for role in roles for more in
               [("concept", name, "x") for name in names] + [("role", again, *pair) for again in roles for pair in (("x", "y"), ("y", "x"), ("x", ONE))]]
    return [((), (pattern,)) for pattern in single] + [((), patterns) for patterns in double]


def are_slowly_different(one, other, names, roles):
    """Whether some of the small facts and queries, or a conflict, separate two ontologies."""
    queries = small_queries(names, roles)
    for facts in small_facts(names, roles):
        consistent = is_consistent(one, facts), is_consistent(other, facts)
        if consistent[0] != consistent[1]:
            return True
        if consistent[0]:
            graphs = [chased(ontology, facts, len(goals_in(ontology)) + 2) for ontology in (one, other)]
            if any(slow_answers(graphs[0], query) != slow_answers(graphs[1], query) for query in queries):
                return True
    return False


class Compare(unittest.TestCase):
    def different(self, one, other):
        for first, second in ((one, other), (other, one)):
            found = compare_ontologies(first, second)
            self.assertIsNotNone(found)
            self.accepted(first, second, found)

    def accepted(self, one, other, difference):
        self.assertIs(is_difference(one, other, difference), True)
        self.assertTrue(is_slow_difference(one, other, difference), difference)
        self.assertEqual((type(difference), type(difference[1])), (tuple, list))
        self.assertIs(is_difference(other, one, (1 - difference[0], *difference[1:])), True)
        self.assertIs(is_difference(other, one, difference), False)

    def same(self, one, other):
        for first, second in ((one, other), (other, one), (tuple(one), other), (one, tuple(other))):
            self.assertIsNone(compare_ontologies(first, second))

    def test_equal_ontologies(self):
        self.same([], [])
        self.same([("subclass", A, B)], [("subclass", A, B)])
        self.same([("subclass", A, B), ("subrole", "r", "s")], [("subrole", "r", "s"), ("subclass", A, B)])

    def test_subclasses(self):
        for axiom in (("subclass", A, B), ("subclass", A, ("out", "r")), ("subclass", ("in", "r"), A), ("subclass", ("out", "r"), ("in", "r")),
                      ("subclass", ("in", "r"), ("out", "s"))):
            self.different([axiom], [])
        self.different([("subclass", A, B), ("subclass", B, C)], [("subclass", A, B), ("subclass", A, C)])

    def test_edges_to_unnamed_individuals(self):
        edge = ("subclass", A, ("out", "r"))
        self.different([edge], [("subclass", A, ("in", "r"))])
        self.different([edge, ("subclass", ("in", "r"), B)], [edge])
        self.different([edge, ("subclass", ("in", "r"), ("out", "s"))], [edge])

    def test_roles(self):
        for axiom in (("subrole", "r", "s"), ("subrole_inverse", "r", "s"), ("subrole_inverse", "r", "r")):
            self.different([axiom], [])
        self.different([("subrole", "r", "s")], [("subclass", ("out", "r"), ("out", "s")), ("subclass", ("in", "r"), ("in", "s"))])
        self.different([("subrole", "r", "s")], [("subrole_inverse", "r", "s")])

    def test_what_is_disjoint(self):
        for axiom in (("disjoint", A, B), ("disjoint", A, ("out", "r")), ("disjoint", ("out", "r"), ("in", "r")), ("disjoint_roles", "r", "s"),
                      ("disjoint_inverse", "r", "s"), ("disjoint_inverse", "r", "r"), ("disjoint", ("in", "r"), ("in", "s"))):
            self.different([axiom], [])
        self.different([("disjoint_roles", "r", "s")], [("disjoint_inverse", "r", "s")])
        self.different([("disjoint", ("out", "r"), ("in", "r"))], [("disjoint_inverse", "r", "r")])
        self.different([("subclass", A, B), ("disjoint", B, C)], [("subclass", A, B), ("disjoint", A, C)])

    def test_functional(self):
        for axiom in (("functional", ("out", "r")), ("functional", ("in", "r"))):
            self.different([axiom], [])
        self.different([("functional", ("out", "r"))], [("functional", ("in", "r"))])
        self.different([("functional", ("out", "r"))], [("disjoint", ("out", "r"), ("out", "r"))])

    def test_what_is_empty(self):
        for axiom in (("disjoint", A, A), ("disjoint", ("out", "r"), ("out", "r")), ("disjoint_roles", "r", "r")):
            self.different([axiom], [])
        edge = ("subclass", A, ("out", "r"))
        self.different([edge, ("disjoint", ("in", "r"), ("in", "r"))], [edge])
        self.different([edge, ("disjoint", ("in", "r"), ("in", "r"))], [("disjoint", ("in", "r"), ("in", "r"))])
        self.different([("disjoint", A, A)], [("disjoint", B, B)])

    def test_names_of_one_of_them_only(self):
        self.different([("subclass", A, B)], [("subclass", C, B)])
        self.different([("subrole", "r", "s")], [("subrole", "r", "q")])

    def test_an_inclusion_of_which_the_other_makes_a_conflict(self):
        one, other = [("subclass", A, B)], [("disjoint", A, A)]
        self.different(one, other)
        which, facts, query = compare_ontologies(one, other)
        self.assertEqual((which, query), (1, None))
        self.different([("subrole", "r", "s")], [("disjoint_roles", "r", "r"), ("functional", ("out", "s"))])

    def test_the_same_consequences(self):
        self.same([("subrole", "r", "s")], [("subrole", "r", "s"), ("subclass", ("out", "r"), ("out", "s"))])
        self.same([("subclass", A, B), ("subclass", B, C)], [("subclass", A, B), ("subclass", B, C), ("subclass", A, C)])
        self.same([], [("subclass", A, A)])
        self.same([], [("subrole", "r", "r")])
        self.same([("disjoint", A, B)], [("disjoint", B, A)])
        self.same([("disjoint_inverse", "r", "s")], [("disjoint_inverse", "s", "r")])
        self.same([("disjoint", A, A)], [("disjoint", A, A), ("subclass", A, B), ("disjoint", A, C)])
        self.same([("disjoint", ("out", "r"), ("out", "r"))], [("disjoint_roles", "r", "r")])
        self.same([("disjoint", ("out", "r"), ("out", "r"))], [("disjoint", ("in", "r"), ("in", "r")), ("functional", ("out", "r"))])
        self.same([("subrole_inverse", "r", "r")], [("subrole_inverse", "r", "r"), ("subclass", ("out", "r"), ("in", "r"))])
        self.same([("subrole", "r", "s"), ("subrole", "s", "r"), ("disjoint_roles", "r", "q")],
                  [("subrole", "s", "r"), ("subrole", "r", "s"), ("disjoint_roles", "q", "s")])
        self.same([("disjoint", ("out", "r"), ("in", "r"))], [("disjoint", ("in", "r"), ("out", "r")), ("disjoint_inverse", "r", "r")])

    def test_against_small_facts_and_queries(self):
        rng = random.Random(181)
        same = different = nontrivial = 0
        while same < 25 or different < 60 or nontrivial < 12:
            names, roles = rng.choice([(["a"], ["r"]), (["a"], ["r", "s"])])
            one = random_ontology(rng, names, roles, positive=rng.randrange(1, 4), negative=rng.randrange(2))
            other = list(one)
            rng.shuffle(other)
            for turn in range(rng.randrange(1, 3)):
                forbidden = [axiom[2] for axiom in other if axiom[0] in ("subrole", "subrole_inverse")]
                more = rng.choice([axiom for axiom in all_axioms(names, roles, TAGS) if axiom not in other])
                functional = [axiom[1][1] for axiom in other if axiom[0] == "functional"]
                if rng.randrange(3) == 0 and len(other) > 1:
                    other.pop()
                elif not (more[0] == "functional" and more[1][1] in forbidden or more[0] in ("subrole", "subrole_inverse") and more[2] in functional):
                    other.append(more)
            found = compare_ontologies(one, other)
            if found is None and same < 40:
                self.assertFalse(are_slowly_different(one, other, names, roles), (one, other))
                same += 1
                nontrivial += set(one) != set(other)
            elif found is not None:
                self.accepted(one, other, found)
                different += 1

    def test_random_pairs(self):
        """None both ways or a difference both ways; what is a difference is accepted by a slow check, too."""
        rng = random.Random(182)
        for turn in range(150):
            one, other = [random_ontology(rng, ["a", "b"], ["r", "s"], positive=rng.randrange(5), negative=rng.randrange(3)) for number in range(2)]
            found, back = compare_ontologies(one, other), compare_ontologies(other, one)
            self.assertEqual(found is None, back is None)
            if found is not None:
                self.accepted(one, other, found)

    def test_sixteen_axioms(self):
        rng = random.Random(183)
        for turn in range(10):
            one = random_ontology(rng, ["a", "b", "c"], ["r", "s", "q"], positive=12, negative=4)
            other = list(one)
            rng.shuffle(other)
            self.same(one, other)
            missing = other.pop()
            found = compare_ontologies(one, other)
            self.assertTrue(found is None or is_difference(one, other, found), missing)
            self.assertTrue(found is None or found[0] == 0)

    def test_new_values_unchanged_arguments_and_names(self):
        one, other = [("subclass", A, B)], [("disjoint", A, C)]
        before = copy.deepcopy((one, other))
        first, second = compare_ontologies(one, other), compare_ontologies(one=one, other=other)
        self.assertEqual(first, second)
        self.assertEqual(len(set(aliases(first) + aliases(second) + aliases([one, other]))), 5)
        self.assertIs(is_difference(one=one, other=other, candidate=first), True)
        self.assertEqual((one, other), before)


class Differences(unittest.TestCase):
    def rejected(self, one, other, *candidates):
        for candidate in candidates:
            self.assertIs(is_difference(one, other, candidate), False, candidate)

    def test_facts_as_a_tuple(self):
        facts = (("concept", "a", ONE),)
        query = ((), (("concept", "b", ONE),))
        self.assertIs(is_difference([("subclass", A, B)], [], (0, facts, query)), True)
        self.assertIs(is_difference([("subclass", A, B)], [], (0, list(facts), query)), True)
        self.assertIs(is_difference([], [("subclass", A, B)], (1, facts, query)), True)

    def test_numbers_of_facts(self):
        one = [("subclass", A, B)]
        query = ((), (("concept", "b", ONE),))
        facts = [("concept", "a", ONE), ("concept", "a", TWO), ("concept", "a", THREE)]
        self.assertIs(is_difference(one, [], (0, facts[:1], query)), True)
        self.assertIs(is_difference(one, [], (0, facts[:2], query)), True)
        self.rejected(one, [], (0, facts, query), (0, [], query), (0, (), query), (0, facts[:1] * 2, query))
        self.assertIs(is_difference([("disjoint", A, A)], [], (0, facts[:2], None)), True)
        self.rejected([("disjoint", A, A)], [], (0, facts, None), (0, [], None))

    def test_a_query_with_answer_terms(self):
        one = [("subclass", A, B)]
        facts = [("concept", "a", ONE)]
        self.assertIs(is_difference(one, [], (0, facts, ((), (("concept", "b", "x"),)))), True)
        self.rejected(one, [], (0, facts, (("x",), (("concept", "b", "x"),))), (0, facts, ((ONE,), (("concept", "b", ONE),))), (0, facts, ((), ())))

    def test_conflicts(self):
        facts = [("concept", "a", ONE)]
        query = ((), (("concept", "b", ONE),))
        empty, included = [("disjoint", A, A)], [("subclass", A, B)]
        self.rejected(included, empty, (0, facts, query), (1, facts, query), (0, facts, None))
        self.assertIs(is_difference(included, empty, (1, facts, None)), True)
        self.rejected(empty + included, empty, (0, facts, query), (1, facts, query), (0, facts, None), (1, facts, None))
        self.rejected(included, [], (0, facts, None), (1, facts, None), (1, facts, query))
        self.rejected(empty, [], (1, facts, None))

    def test_true_and_false(self):
        facts = [("concept", "a", ONE)]
        self.assertIs(is_difference([], [("disjoint", A, A)], (1, facts, None)), True)
        self.rejected([], [("disjoint", A, A)], (True, facts, None), (1.0, facts, None), (2, facts, None), (-1, facts, None), ("1", facts, None))
        self.assertIs(is_difference([("disjoint", A, A)], [], (0, facts, None)), True)
        self.rejected([("disjoint", A, A)], [], (False, facts, None), (0.0, facts, None), (-2, facts, None), (None, facts, None))

    def test_any_value(self):
        self.rejected([("disjoint", A, A)], [], *STRANGE)
        facts = [("concept", "a", ONE)]
        self.rejected([("disjoint", A, A)], [], [0, facts, None], (0, facts), (0, facts, None, None), *[(0, value, None) for value in STRANGE],
                      *[(0, [value], None) for value in STRANGE], *[(value, facts, None) for value in STRANGE if type(value) is not int])
        self.rejected([("subclass", A, B)], [], *[(0, facts, value) for value in STRANGE])

    def test_one_part_changed(self):
        accepted = 0
        role = [("subclass", A, ("out", "r")), ("functional", ("out", "s"))]
        for one, other, difference in (([("subclass", A, B)], [], (0, [("concept", "a", ONE)], ((), (("concept", "b", ONE),)))),
                                       (role, role[:1], (0, [("role", "s", ONE, TWO), ("role", "s", ONE, THREE)], None)),
                                       ([], role, (1, (("concept", "a", ONE), ("concept", "b", TWO)), ((), (("role", "r", ONE, "x"), ("concept", "b", TWO)))))):
            self.assertIs(is_difference(one, other, difference), True)
            for changed in with_parts_changed(difference):
                expected = is_slow_difference(one, other, changed)
                self.assertIs(is_difference(one, other, changed), expected, changed)
                accepted += expected
        self.assertGreater(accepted, 5)

    def test_random(self):
        rng = random.Random(184)
        accepted = 0
        for turn in range(1500):
            one, other = [random_ontology(rng, ["a", "b"], ["r"], positive=rng.randrange(3), negative=rng.randrange(2)) for number in range(2)]
            facts = random_facts(rng, ["a", "b"], ["r"], [ONE, TWO, THREE], rng.choice([1, 2, 2, 3]))
            query = rng.choice([None, random_query(rng, ["a", "b"], ["r"], [ONE, TWO], most=2, answers=0)])
            candidate = (rng.randrange(2), facts, query)
            expected = is_slow_difference(one, other, candidate)
            self.assertIs(is_difference(one, other, candidate), expected, (one, other, candidate))
            accepted += expected
        self.assertGreater(accepted, 60)

    def test_unchanged_arguments(self):
        one, candidate = [("subclass", A, B)], (0, [("concept", "a", ONE)], ((), (("concept", "b", "x"),)))
        before = copy.deepcopy((one, candidate))
        is_difference(one, [], candidate)
        self.assertEqual((one, candidate), before)


if __name__ == "__main__":
    unittest.main()
