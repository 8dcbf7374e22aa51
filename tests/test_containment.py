import copy
import itertools
import random
import unittest

from factsandfar.answering import certain_answers
from factsandfar.conflicts import find_conflict
from factsandfar.containment import find_homomorphism, find_separation, is_homomorphism, is_separation, minimize
from factsandfar.errors import LimitExceeded
from factsandfar.facts import check_facts
from factsandfar.queries import evaluate
from factsandfar.rewriting import rewrite
from oracles import (
    STRANGE, aliases, is_individual, is_pattern, random_facts, random_ontology, random_query, slow_homomorphisms,
    slow_list_answers, slow_minimize, variables_of, with_parts_changed)

T, U, V = ("p", "1"), ("p", "2"), ("q", "x1")


class Homomorphisms(unittest.TestCase):
    def leads(self, one, other, expected):
        """The first query has exactly these homomorphisms to the other one, and one of them is found."""
        self.assertEqual(list(slow_homomorphisms(one, other)), expected, "the test is wrong")
        found = find_homomorphism(one, other)
        if expected:
            self.assertIn(found, expected)
        else:
            self.assertIsNone(found)
        for candidate in expected:
            self.assertIs(is_homomorphism(one, other, candidate), True)
        self.assertIs(is_homomorphism(one, other, found), expected != [])

    def test_to_variables(self):
        self.leads((("x",), (("concept", "a", "x"),)), (("y",), (("concept", "a", "y"), ("concept", "b", "y"))), [{"x": "y"}])
        self.leads((("x",), (("concept", "a", "x"), ("concept", "b", "x"))), (("y",), (("concept", "a", "y"),)), [])
        self.leads(((), (("role", "r", "x", "y"), ("role", "r", "y", "z"))), ((), (("role", "r", "w", "w"),)), [{"x": "w", "y": "w", "z": "w"}])
        self.leads(((), (("role", "r", "x", "y"), ("role", "r", "y", "z"))), ((), (("role", "r", "u", "v"),)), [])
        self.leads(((), (("role", "r", "x", "y"),)), ((), (("role", "r", "u", "v"), ("role", "r", "v", "u"))), [{"x": "u", "y": "v"}, {"x": "v", "y": "u"}])

    def test_to_individuals(self):
        self.leads(((), (("concept", "a", "x"),)), ((), (("concept", "a", T),)), [{"x": T}])
        self.leads(((), (("concept", "a", T),)), ((), (("concept", "a", "x"),)), [])
        self.leads(((), (("concept", "a", T),)), ((), (("concept", "a", T),)), [{}])
        self.leads(((), (("concept", "a", T),)), ((), (("concept", "a", U),)), [])
        self.leads((("x",), (("role", "r", "x", T),)), ((U,), (("role", "r", U, T), ("role", "r", T, "y"))), [{"x": U}])

    def test_answer_terms(self):
        edge = (("role", "r", "x", "y"),)
        self.leads((("x",), edge), (("y",), edge), [])
        self.leads((("x", "y"), edge), (("y", "x"), (("role", "r", "y", "x"),)), [{"x": "y", "y": "x"}])
        self.leads((("x", "y"), edge), (("x", "x"), (("role", "r", "x", "x"),)), [{"x": "x", "y": "x"}])
        self.leads((("x", "x"), (("role", "r", "x", "x"),)), (("x", "y"), edge), [])
        self.leads((("x", "x"), edge), (("x", "y"), edge), [])
        self.leads(((T,), edge), ((T,), edge), [{"x": "x", "y": "y"}])
        self.leads(((T,), edge), ((U,), edge), [])
        self.leads(((T,), edge), (("x",), edge), [])
        self.leads((("x",), edge), ((T,), edge), [])
        self.leads((("x",), edge), ((T,), (("role", "r", T, "y"),)), [{"x": T, "y": "y"}])

    def test_different_numbers_of_answer_terms(self):
        self.leads((("x",), (("concept", "a", "x"),)), ((), (("concept", "a", "x"),)), [])
        self.leads(((), (("concept", "a", "x"),)), (("x",), (("concept", "a", "x"),)), [])

    def test_individuals_that_look_like_variables(self):
        self.leads(((), (("role", "r", "x", "y"),)), ((), (("role", "r", ("x", "y"), "x"),)), [{"x": ("x", "y"), "y": "x"}])
        self.leads(((), (("concept", "a", ("x", "x")),)), ((), (("concept", "a", "x"),)), [])

    def test_too_many_and_too_few_variables(self):
        one, other = (("x",), (("role", "r", "x", "y"),)), (("u",), (("role", "r", "u", "v"),))
        self.assertIs(is_homomorphism(one, other, {"x": "u", "y": "v"}), True)
        for wrong in ({"x": "u"}, {"y": "v"}, {}, {"x": "u", "y": "v", "z": "v"}, {"x": "u", "y": "v", "u": "u"}, {"x": "v", "y": "u"},
                      {"x": "u", "y": "u"}, {"x": "u", "y": "w"}, {"x": T, "y": "v"}, {"x": "u", "y": ("v",)}, {"x": "u", "y": ["v"]},
                      {"x": "u", 1: "v"}, [("x", "u"), ("y", "v")], ("u", "v"), {"x": "u", "y": None}):
            self.assertIs(is_homomorphism(one, other, wrong), False, wrong)

    def test_any_value(self):
        one, other = (("x",), (("concept", "a", "x"),)), (("y",), (("concept", "a", "y"),))
        for strange in STRANGE:
            self.assertIs(is_homomorphism(one, other, strange), False)
            self.assertIs(is_homomorphism(one, other, {"x": strange}), False)
            try:
                candidate = {strange: "y"}
            except (TypeError, AssertionError):
                continue
            self.assertIs(is_homomorphism(one, other, candidate), False)
        ground = ((), (("concept", "a", T),))
        for strange in STRANGE:
            self.assertIs(is_homomorphism(ground, ground, strange), repr(strange) == "{}")

    def test_against_all_dicts(self):
        rng = random.Random(101)
        counts = {True: 0, False: 0}
        for turn in range(1500):
            one = random_query(rng, ["a", "b"], ["r"], [T, U], most=3, answers=1)
            other = random_query(rng, ["a", "b"], ["r"], [T, U], most=4, answers=1)
            expected = list(slow_homomorphisms(one, other))
            found = find_homomorphism(one, other)
            self.assertEqual(found is not None, expected != [], (one, other))
            if expected:
                self.assertIn(found, expected)
                facts = random_facts(rng, ["a", "b"], ["r"], [T, U], 6)
                self.assertLessEqual(set(evaluate(facts, other)), set(evaluate(facts, one)))
            terms = variables_of(one) + variables_of(other) + [T, U]
            for chosen in itertools.islice(itertools.product(terms, repeat=len(variables_of(one))), 200):
                candidate = dict(zip(variables_of(one), chosen))
                self.assertIs(is_homomorphism(one, other, candidate), candidate in expected)
            counts[expected != []] += 1
        self.assertGreater(min(counts.values()), 150)

    def test_new_dicts_unchanged_arguments_and_names(self):
        query = (("x",), (("concept", "a", "x"),))
        find_homomorphism(query, query).clear()
        self.assertEqual(find_homomorphism(one=query, other=query), {"x": "x"})
        candidate = {"x": "x"}
        self.assertIs(is_homomorphism(one=query, other=query, candidate=candidate), True)
        self.assertEqual(candidate, {"x": "x"})


class Minimize(unittest.TestCase):
    one = ((), (("concept", "a", "x"),))
    two = ((), (("concept", "a", "x"), ("concept", "b", "x")))
    three = ((), (("concept", "a", "x"), ("concept", "a", "y")))
    four = ((), (("concept", "b", "x"),))

    def check(self, queries, expected):
        self.assertEqual(slow_minimize(queries), expected, "the test is wrong")
        self.assertEqual(minimize(queries), expected)

    def test_dropped(self):
        self.check([], [])
        self.check([self.one], [self.one])
        self.check([self.one, self.two], [self.one])
        self.check([self.two, self.one], [self.one])
        self.check([self.two, self.one, self.four], [self.one, self.four])
        self.check([self.four, self.two, self.one], [self.four, self.one])

    def test_the_order_decides(self):
        self.check([self.one, self.three], [self.one])
        self.check([self.three, self.one], [self.three])
        self.check([self.three, self.two, self.one], [self.three])
        self.check([self.two, self.three, self.one, self.four], [self.three, self.four])

    def test_equal_queries(self):
        self.check([self.one] * 3, [self.one])
        self.check([self.four, self.one, self.four, self.one], [self.four, self.one])
        self.check([self.two, self.one, self.two, self.one], [self.one])

    def test_answer_terms(self):
        one, other = (("x",), (("role", "r", "x", "y"),)), (("y",), (("role", "r", "x", "y"),))
        loop = (("x",), (("role", "r", "x", "x"),))
        self.check([one, other], [one, other])
        self.check([loop, one, other], [one, other])
        self.check([((T,), (("concept", "a", T),)), (("x",), (("concept", "a", "x"),))], [(("x",), (("concept", "a", "x"),))])

    def test_against_the_words(self):
        rng = random.Random(102)
        dropped = 0
        for turn in range(150):
            queries = [random_query(rng, ["a", "b"], ["r"], [T], most=3, answers=0) for number in range(rng.randrange(6))]
            found = minimize(queries)
            self.assertEqual(found, slow_minimize(queries), queries)
            facts = random_facts(rng, ["a", "b"], ["r"], [T, U], rng.randrange(7))
            self.assertEqual(slow_list_answers(found, facts), slow_list_answers(queries, facts))
            dropped += len(found) < len(queries)
        self.assertGreater(dropped, 80)

    def test_minimized_rewritings(self):
        """Of point 3, (b)."""
        rng = random.Random(103)
        compared = shorter = 0
        while compared < 120:
            ontology = random_ontology(rng, ["a", "b"], ["r", "s"], positive=rng.randrange(6), negative=rng.randrange(2))
            query = random_query(rng, ["a", "b"], ["r", "s"], [T, U])
            try:
                queries = [derived for derived, step in rewrite(ontology, query)]
            except LimitExceeded:
                continue
            least = minimize(queries)
            self.assertIsNone(find_separation(queries, least))
            shorter += len(least) < len(queries)
            for turn in range(3):
                facts = random_facts(rng, ["a", "b"], ["r", "s"], [T, U, V], rng.randrange(1, 6))
                if find_conflict(ontology, facts) is None:
                    compared += 1
                    self.assertEqual(sorted({answer for derived in least for answer in evaluate(facts, derived)}), certain_answers(ontology, facts, query))
        self.assertGreater(shorter, 20)

    def test_new_lists_unchanged_arguments_and_names(self):
        queries = [self.two, self.one]
        minimize(queries).clear()
        self.assertEqual(minimize(queries=queries), [self.one])
        self.assertEqual(queries, [self.two, self.one])
        alone = [self.one]
        self.assertIsNot(minimize(alone), alone)


def is_right_separation(one, other, candidate):
    """Point 14, word by word."""
    if type(candidate) is not tuple or len(candidate) != 3 or type(candidate[0]) is not int or candidate[0] not in (0, 1):
        return False
    which, facts, answer = candidate
    if type(facts) not in (list, tuple) or not all(is_pattern(fact, is_individual) for fact in facts) or len(set(facts)) < len(facts):
        return False
    if type(answer) is not tuple or not all(is_individual(term) for term in answer):
        return False
    lists = [slow_list_answers(one, facts), slow_list_answers(other, facts)]
    return answer in lists[which] and answer not in lists[1 - which]


class Separations(unittest.TestCase):
    def separated(self, one, other, which):
        """One of the numbers in which; both orders are tried."""
        for first, second, numbers in ((one, other, which), (other, one, [1 - number for number in which])):
            found = find_separation(first, second)
            self.assertIs(is_separation(first, second, found), True, (first, second, found))
            self.assertIs(is_right_separation(first, second, found), True)
            self.assertIsNone(check_facts(found[1]))
            self.assertIs(type(found[1]), list)
            self.assertIn(found[0], numbers)
            self.assertIs(is_separation(second, first, found), False)

    def same(self, one, other):
        self.assertIsNone(find_separation(one, other))
        self.assertIsNone(find_separation(other, one))

    def test_the_same_answers(self):
        a, b = ((), (("concept", "a", "x"),)), ((), (("concept", "b", "x"),))
        both = ((), (("concept", "a", "x"), ("concept", "b", "y")))
        self.same([], [])
        self.same([a], [a, a])
        self.same([a, b], [b, a])
        self.same([a, both], [a])
        self.same([((), (("concept", "a", "y"), ("concept", "a", "z")))], [a])
        self.same([(("x",), (("role", "r", "x", "y"), ("role", "r", "x", "z")))], [(("u",), (("role", "r", "u", "v"),))])

    def test_different_answers(self):
        a, b = ((), (("concept", "a", "x"),)), ((), (("concept", "b", "x"),))
        both = ((), (("concept", "a", "x"), ("concept", "b", "x")))
        self.separated([a], [b], [0, 1])
        self.separated([a], [], [0])
        self.separated([both], [], [0])
        self.separated([a, b], [both], [0])
        self.separated([a], [a, b], [1])
        self.separated([both], [((), (("concept", "a", "x"), ("concept", "b", "y")))], [1])
        edge = (("role", "r", "x", "y"),)
        self.separated([(("x",), edge)], [(("y",), edge)], [0, 1])
        self.separated([(("x", "y"), edge)], [(("x", "x"), (("role", "r", "x", "x"),))], [0])
        self.separated([(("x", "y"), edge)], [(("x", "x"), edge)], [0, 1])

    def test_individuals(self):
        a = (("x",), (("concept", "a", "x"),))
        self.separated([a], [((T,), (("concept", "a", T),))], [0])
        self.separated([((T,), (("concept", "a", T),))], [((U,), (("concept", "a", U),))], [0, 1])
        self.separated([((T,), (("concept", "a", "x"),))], [((U,), (("concept", "a", "x"),))], [0, 1])
        self.separated([((T,), (("concept", "a", "x"),))], [((T,), (("concept", "a", T),))], [0])
        self.same([a], [a, ((T,), (("concept", "a", T),))])

    def test_individuals_that_the_facts_could_use_by_chance(self):
        """The individuals of a separation must not be ones that the queries ask for."""
        ground = [((), (("concept", "a", (word, value)),)) for word in ("a", "b", "c", "x", "y", "v", "p") for value in ("x", "y", "a", "1", "0")]
        self.separated([((), (("concept", "a", "x"),))], ground, [0])
        self.separated(ground, [((), (("concept", "a", "x"),))], [1])
        self.separated([(("x",), (("concept", "a", "x"),))], [(((word, "x"),), (("concept", "a", (word, "x")),)) for word in "abcdefghijklmnopqrstuvwxyz"], [0])

    def test_none_exactly_if_no_facts_separate(self):
        rng = random.Random(104)
        counts = {True: 0, False: 0}
        all_facts = [("concept", "a", T), ("concept", "a", U)] + [("role", "r", one, other) for one in (T, U) for other in (T, U)]
        for turn in range(120):
            answers = rng.randrange(2)
            one, other = [[self.random_query(rng, answers) for number in range(rng.randrange(3))] for side in range(2)]
            if rng.randrange(2):
                other = other + one
            found = find_separation(one, other)
            if found is None:
                for size in range(len(all_facts) + 1):
                    for facts in itertools.combinations(all_facts, size):
                        self.assertEqual(slow_list_answers(one, facts), slow_list_answers(other, facts), (one, other))
            else:
                self.assertIs(is_separation(one, other, found), True)
                self.assertIs(is_right_separation(one, other, found), True)
            counts[found is None] += 1
        self.assertGreater(min(counts.values()), 20)

    def random_query(self, rng, answers):
        while True:
            query = random_query(rng, ["a"], ["r"], [T], most=2, answers=2)
            if len(query[0]) == answers:
                return query

    def test_random_facts_as_separations(self):
        rng = random.Random(105)
        counts = {True: 0, False: 0}
        for turn in range(600):
            answers = rng.randrange(2)
            one, other = [[self.random_query(rng, answers) for number in range(rng.randrange(3))] for side in range(2)]
            candidate = (rng.randrange(2), random_facts(rng, ["a"], ["r"], [T, U], rng.randrange(4)), (rng.choice([T, U]),) * answers)
            expected = is_right_separation(one, other, candidate)
            self.assertIs(is_separation(one, other, candidate), expected)
            counts[expected] += 1
        self.assertGreater(min(counts.values()), 60)

    def test_one_part_changed(self):
        one, other = [(("x",), (("concept", "a", "x"), ("role", "r", "x", "y")))], [(("x",), (("concept", "b", "x"),))]
        right = (0, [("concept", "a", T), ("role", "r", T, U)], (T,))
        self.assertIs(is_separation(one, other, right), True)
        for candidate in with_parts_changed(right):
            self.assertIs(is_separation(one, other, candidate), is_right_separation(one, other, candidate), candidate)
        for wrong in [(1,) + right[1:], (0, right[1][:1], (T,)), (0, right[1], (U,)), (0, right[1], ()), (0, right[1], (T, T)), (0, right[1], [T]),
                      (0, right[1] + [("concept", "b", T)], (T,)), (0, right[1] * 2, (T,)), list(right), right[:2], right + ((),), (2,) + right[1:],
                      (-1,) + right[1:], (0.0,) + right[1:], (None,) + right[1:], (0, {right[1][0]: True}, (T,)), (0, right[1], ("x",))]:
            self.assertIs(is_separation(one, other, wrong), False, wrong)
        self.assertIs(is_separation(one, other, (0, tuple(right[1]), (T,))), True)

    def test_true_and_false(self):
        a = [((), (("concept", "a", "x"),))]
        for which, one, other in ((0, a, []), (1, [], a)):
            self.assertIs(is_separation(one, other, (which, [("concept", "a", T)], ())), True)
            self.assertIs(is_separation(one, other, (bool(which), [("concept", "a", T)], ())), False)
            for wrong in (2, -1, 3, 1 - which):
                self.assertIs(is_separation(one, other, (wrong, [("concept", "a", T)], ())), False)

    def test_any_value(self):
        a = [((), (("concept", "a", "x"),))]
        right = (0, [("concept", "a", T)], ())
        for strange in STRANGE:
            self.assertIs(is_separation(a, [], strange), False)
            self.assertIs(is_separation([], [], strange), False)
            for part in range(3):
                candidate = right[:part] + (strange,) + right[part + 1:]
                self.assertIs(is_separation(a, [], candidate), repr(candidate) == repr(right))
            self.assertIs(is_separation(a, [], (0, [strange], ())), False)
            self.assertIs(is_separation(a, [], (0, right[1], (strange,))), False)

    def test_new_lists_unchanged_arguments_and_names(self):
        one, other = [((), (("concept", "a", "x"),))], []
        before = copy.deepcopy((one, other))
        first, second = find_separation(one, other), find_separation(one=one, other=other)
        self.assertEqual(first, second)
        ids = aliases(first) + aliases(second)
        self.assertEqual(len(set(ids)), len(ids))
        self.assertIs(is_separation(one=one, other=other, candidate=first), True)
        self.assertEqual((one, other), before)


if __name__ == "__main__":
    unittest.main()
