import copy
import itertools
import random
import unittest

from factsandfar.queries import evaluate, is_isomorphic, is_query
from oracles import (
    STRANGE, aliases, are_slowly_isomorphic, form_of, is_slow_query, random_facts, random_query, replaced, slow_evaluate, variables_of,
    with_parts_changed)

T, U, V = ("p", "1"), ("p", "2"), ("q", "x1")


class Form(unittest.TestCase):
    def accepted(self, query):
        self.assertIs(is_query(query), True, query)

    def rejected(self, candidate):
        self.assertIs(is_query(candidate), False, candidate)

    def test_numbers_of_patterns(self):
        pattern = ("concept", "a", "x")
        for count, expected in ((0, False), (1, True), (2, True), (3, True), (4, True), (5, False), (9, False)):
            self.assertIs(is_query((("x",) if count else (), (pattern,) * count)), expected)
            self.assertIs(is_query(((), tuple(("role", "r", f"x{'abcdefghi'[number]}", "y") for number in range(count)))), expected)

    def test_numbers_of_answer_terms(self):
        for count, expected in ((0, True), (1, True), (2, True), (3, True), (4, False), (7, False)):
            for term in ("x", "y", T):
                self.assertIs(is_query(((term,) * count, (("role", "r", "x", "y"),))), expected)
        self.accepted((("x", "y", "z"), (("role", "r", "x", "y"), ("concept", "a", "z"))))

    def test_an_answer_term_that_occurs_in_no_pattern(self):
        self.rejected((("z",), (("role", "r", "x", "y"),)))
        self.rejected((("x", "z"), (("role", "r", "x", "y"),)))
        self.rejected((("r",), (("role", "r", "x", "y"),)))
        self.rejected((("p",), (("role", "r", "x", T),)))
        self.accepted(((V,), (("role", "r", "x", T),)))
        self.accepted(((V, "x", T), (("role", "r", "x", T),)))

    def test_variables_and_individuals_in_each_place(self):
        for one, other, answer in itertools.product(("x", "y", "abcdefgh", T, V, ("abcdefgh", "zz99zz99")), repeat=3):
            self.assertIs(is_query(((answer,), (("role", "r", one, other),))), not isinstance(answer, str) or answer in (one, other))
            self.assertIs(is_query(((answer,), (("concept", "a", one), ("concept", "b", other)))),
                          not isinstance(answer, str) or answer in (one, other))

    def test_wrong_words(self):
        for wrong in ("", "X", "x1", "abcdefghi", "x ", " ", b"x", 1, None, True, ("p",), ("p", "1", "1"), ("P", "1"), ("p", "A"), ("", "1"),
                      ("p", ""), ("p", 1), (1, "1"), ["p", "1"], ("p1", "1"), ("p", "123456789")):
            self.rejected(((), (("concept", "a", wrong),)))
            self.rejected(((), (("role", "r", "x", wrong),)))
            self.rejected(((), (("role", "r", wrong, "x"),)))
            self.rejected(((wrong,), (("concept", "a", "x"),)))
            self.rejected(((wrong,), (("concept", "a", wrong),)))
            self.rejected(((), (("concept", "a", "x"), ("concept", wrong, "x"))))
            self.rejected(((), (("role", wrong, "x", "y"),)))

    def test_wrong_patterns(self):
        for wrong in (("concept", "a"), ("concept", "a", "x", "y"), ("role", "r", "x"), ("role", "r", "x", "y", "z"), ("out", "r"),
                      ("Concept", "a", "x"), ["concept", "a", "x"], ("subclass", "a", "x"), (), ("concept", T, "x"), "concept", None):
            self.rejected(((), (wrong,)))
            self.rejected(((), (("concept", "a", "x"), wrong)))

    def test_lists_in_place_of_tuples(self):
        pattern = ("concept", "a", "x")
        for wrong in ([("x",), (pattern,)], (["x"], (pattern,)), (("x",), [pattern]), (("x",), (list(pattern),)), ("x", (pattern,)),
                      (("x",), pattern), (("x",), (pattern,), ()), (("x",),), {"x": (pattern,)}):
            self.rejected(wrong)

    def test_any_value(self):
        for candidate in STRANGE:
            self.rejected(candidate)
            self.rejected((candidate, (("concept", "a", "x"),)) if repr(candidate) != "()" else None)
            self.rejected(((), candidate))
            self.rejected(((), (candidate,)))

    def test_one_part_changed(self):
        rng = random.Random(60)
        counts = {True: 0, False: 0}
        for turn in range(12):
            query = random_query(rng, ["a", "b"], ["r", "s"], [T, U, V])
            self.accepted(query)
            for candidate in with_parts_changed(query):
                found = is_query(candidate)
                self.assertIs(found, is_slow_query(candidate), candidate)
                counts[found] += 1
        self.assertGreater(min(counts.values()), 100)
        self.assertIs(is_query(candidate=query), True)


class Isomorphic(unittest.TestCase):
    def same(self, one, other, expected=True):
        self.assertIs(is_isomorphic(one, other), expected, (one, other))
        self.assertIs(is_isomorphic(other, one), expected, (other, one))
        self.assertIs(are_slowly_isomorphic(one, other), expected)

    def test_renamed_variables_and_another_order(self):
        one = (("x", "y"), (("role", "r", "x", "z"), ("role", "s", "z", "y"), ("concept", "a", "z")))
        self.same(one, one)
        self.same(one, (("b", "a"), (("concept", "a", "c"), ("role", "r", "b", "c"), ("role", "s", "c", "a"))))
        self.same(one, (("y", "x"), (("role", "r", "y", "z"), ("role", "s", "z", "x"), ("concept", "a", "z"))))
        self.same(one, (("y", "x"), (("role", "r", "x", "z"), ("role", "s", "z", "y"), ("concept", "a", "z"))), False)
        self.same(one, (("x", "y"), (("role", "r", "z", "x"), ("role", "s", "z", "y"), ("concept", "a", "z"))), False)

    def test_repeated_equal_patterns(self):
        once = (("x",), (("role", "r", "x", "y"), ("concept", "a", "y")))
        twice = (("u",), (("concept", "a", "v"), ("role", "r", "u", "v"), ("concept", "a", "v"), ("role", "r", "u", "v")))
        self.same(once, twice)
        self.same((("x",), (("concept", "a", "x"), ("concept", "b", "x"))), (("x",), (("concept", "a", "x"),) * 2), False)
        self.same(((), (("concept", "a", "x"), ("concept", "a", "y"))), ((), (("concept", "a", "x"),) * 2), False)

    def test_two_variables_that_would_become_one(self):
        self.same(((), (("role", "r", "x", "y"),)), ((), (("role", "r", "x", "x"),)), False)
        self.same((("x", "y"), (("role", "r", "x", "y"),)), (("x", "x"), (("role", "r", "x", "x"),)), False)
        self.same(((), (("role", "r", "x", "y"), ("role", "r", "y", "z"))), ((), (("role", "r", "x", "y"), ("role", "r", "y", "x"))), False)

    def test_answer_terms(self):
        body = (("role", "r", "x", "y"), ("role", "r", "y", "x"))
        self.same((("x",), body), (("y",), body))
        self.same((("x", "y"), body), (("y", "x"), body))
        self.same((("x", "x"), body), (("y", "y"), body))
        self.same((("x", "x"), body), (("x", "y"), body), False)
        self.same((("x",), body), (("x", "x"), body), False)
        self.same(((), body), (("x",), body), False)
        self.same((("x",), (("role", "r", "x", "y"),)), (("y",), (("role", "r", "x", "y"),)), False)

    def test_individuals(self):
        self.same(((T,), (("role", "r", T, "x"),)), ((T,), (("role", "r", T, "y"),)))
        self.same(((T,), (("role", "r", T, "x"),)), ((U,), (("role", "r", U, "x"),)), False)
        self.same((("x",), (("role", "r", "x", "y"),)), (("x",), (("role", "r", "x", T),)), False)
        self.same(((T,), (("concept", "a", "x"),)), ((U,), (("concept", "a", "x"),)), False)
        self.same(((T,), (("concept", "a", "x"),)), (("x",), (("concept", "a", "x"),)), False)

    def test_names_of_concepts_and_roles(self):
        self.same(((), (("concept", "a", "x"),)), ((), (("concept", "b", "x"),)), False)
        self.same(((), (("role", "r", "x", "y"),)), ((), (("role", "s", "x", "y"),)), False)
        self.same(((), (("concept", "r", "x"),)), ((), (("role", "r", "x", "y"),)), False)

    def test_names_of_variables_that_look_like_other_parts(self):
        self.same((("a",), (("concept", "a", "a"),)), (("r",), (("concept", "a", "r"),)))
        self.same(((("answer", "0"),), (("concept", "a", ("this", "other")),)), ((("answer", "0"),), (("concept", "a", "x"),)), False)
        self.same((("this", "other"), (("role", "r", "this", "other"),)), (("other", "this"), (("role", "r", "other", "this"),)))

    def test_cycles(self):
        """No occurrence tells the variables apart; only the whole differs."""
        def ring(names):
            return ((), tuple(("role", "r", one, other) for one, other in zip(names, names[1:] + names[:1])))
        four = ring("xyzw")
        self.same(four, ring("wxyz"))
        self.same(four, ring("xzyw"))
        self.same(four, ((), ring("xy")[1] + ring("zw")[1]), False)
        self.same(((), ring("xyz")[1]), ((), ring("xy")[1] + (("role", "r", "z", "z"),)), False)

    def test_against_all_renamings(self):
        rng = random.Random(61)
        counts = {True: 0, False: 0}
        for turn in range(1500):
            one = random_query(rng, ["a"], ["r"], [T, U])
            names = variables_of(one)
            order = dict(zip(names, rng.sample(["x", "y", "z", "w", "v"], len(names))))
            other = replaced(one, order)
            patterns = list(other[1])
            rng.shuffle(patterns)
            if rng.randrange(2) and len(patterns) < 4:
                patterns.append(rng.choice(patterns))
            if rng.randrange(2):
                patterns[rng.randrange(len(patterns))] = rng.choice([("role", "r", "x", "y"), ("role", "r", "x", "x"), ("concept", "a", "x")])
            other = (other[0], tuple(patterns))
            if not is_query(other):
                continue
            expected = are_slowly_isomorphic(one, other)
            self.assertIs(is_isomorphic(one, other), expected, (one, other))
            self.assertIs(form_of(one) == form_of(other), expected)
            counts[expected] += 1
        self.assertGreater(min(counts.values()), 300)

    def test_names_of_arguments(self):
        query = ((), (("concept", "a", "x"),))
        self.assertIs(is_isomorphic(one=query, other=query), True)


class Evaluate(unittest.TestCase):
    facts = [("role", "r", T, U), ("role", "r", U, U), ("role", "s", U, V), ("concept", "a", T), ("concept", "a", V), ("concept", "b", U)]

    def answers(self, query, expected):
        self.assertEqual(evaluate(self.facts, query), expected)
        self.assertEqual(evaluate(tuple(reversed(self.facts)), query), expected)
        self.assertEqual(slow_evaluate(self.facts, query), expected)

    def test_sorted_without_duplicates(self):
        self.answers((("x",), (("concept", "a", "x"),)), [(T,), (V,)])
        self.answers((("y",), (("role", "r", "x", "y"),)), [(U,)])
        self.answers((("x", "y"), (("role", "r", "x", "y"),)), [(T, U), (U, U)])
        self.answers((("y", "x"), (("concept", "a", "x"), ("concept", "a", "y"))), [(T, T), (T, V), (V, T), (V, V)])
        self.answers((("x", "x", "y"), (("role", "s", "x", "y"),)), [(U, U, V)])

    def test_without_answer_terms(self):
        self.answers(((), (("concept", "a", "x"),)), [()])
        self.answers(((), (("concept", "c", "x"),)), [])
        self.answers(((), (("role", "r", "x", "y"), ("role", "s", "y", "z"))), [()])
        self.answers(((), (("role", "s", "x", "y"), ("role", "s", "y", "z"))), [])
        self.assertEqual(evaluate([], ((), (("concept", "a", "x"),))), [])

    def test_a_repeated_variable(self):
        self.answers((("x",), (("role", "r", "x", "x"),)), [(U,)])
        self.answers((("x",), (("role", "s", "x", "x"),)), [])
        self.answers((("x",), (("role", "r", "x", "y"), ("concept", "a", "y"))), [])
        self.answers((("x",), (("role", "r", "x", "y"), ("concept", "b", "y"))), [(T,), (U,)])

    def test_individuals(self):
        self.answers((("x",), (("role", "r", "x", U),)), [(T,), (U,)])
        self.answers((("x",), (("role", "r", T, "x"),)), [(U,)])
        self.answers((("x",), (("role", "r", V, "x"),)), [])
        self.answers(((), (("role", "r", T, U),)), [()])
        self.answers(((), (("role", "r", U, T),)), [])
        self.answers(((V, "x"), (("concept", "a", "x"),)), [(V, T), (V, V)])
        self.answers(((("z", "9"),), (("concept", "a", "x"),)), [(("z", "9"),)])
        self.answers(((("z", "9"),), (("concept", "c", "x"),)), [])

    def test_concept_names_are_not_role_names(self):
        self.answers(((), (("concept", "r", "x"),)), [])
        self.answers(((), (("role", "a", "x", "y"),)), [])

    def test_against_all_assignments(self):
        rng = random.Random(62)
        filled = 0
        for turn in range(600):
            facts = random_facts(rng, ["a", "b"], ["r", "s"], [T, U, V], rng.randrange(12))
            query = random_query(rng, ["a", "b"], ["r", "s"], [T, U, ("z", "9")])
            found = evaluate(facts, query)
            self.assertEqual(found, slow_evaluate(facts, query), (facts, query))
            filled += found != []
        self.assertGreater(filled, 150)

    def test_many_facts(self):
        facts = [("role", "r", ("p", str(one)), ("p", str(one + 1))) for one in range(700)]
        apart = ((), tuple(("role", "r", one, other) for one, other in ("ab", "cd", "ef", "gh")))
        self.assertEqual(evaluate(facts, apart), [()])
        path = (("a", "e"), tuple(("role", "r", one, other) for one, other in ("ab", "cd", "bc", "de")))
        self.assertEqual(evaluate(facts, path), sorted((("p", str(one)), ("p", str(one + 4))) for one in range(697)))
        star = (("a",), tuple(("role", "r", "a", other) for other in "bcde"))
        self.assertEqual(len(evaluate([("role", "r", T, ("p", str(one))) for one in range(300)], star)), 1)

    def test_new_lists_unchanged_arguments_and_names(self):
        query = (("x",), (("concept", "a", "x"),))
        facts = list(self.facts)
        first, second = evaluate(facts, query), evaluate(facts=facts, query=query)
        self.assertEqual(first, second)
        self.assertEqual(set(aliases(first)) & set(aliases((second, facts))), set())
        first.clear()
        self.assertEqual(evaluate(facts, query), second)
        before = copy.deepcopy(self.facts)
        self.assertEqual(facts, before)


if __name__ == "__main__":
    unittest.main()
