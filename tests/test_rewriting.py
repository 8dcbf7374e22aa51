import copy
import random
import unittest

from factsandfar.answering import certain_answers
from factsandfar.conflicts import find_conflict
from factsandfar.errors import LimitExceeded
from factsandfar.queries import evaluate, is_isomorphic, is_query
from factsandfar.rewriting import evaluate_rewriting, is_rewriting, rewrite
from oracles import (
    STRANGE, aliases, form_of, is_slow_query, is_slow_rewriting, random_facts, random_ontology, random_query, replaced, slow_closure,
    slow_evaluate, variables_of, with_parts_changed)

T, U, V = ("p", "1"), ("p", "2"), ("q", "x1")
A, B, C = ("concept", "a"), ("concept", "b"), ("concept", "c")
OUT, IN = ("out", "r"), ("in", "r")
INITIAL = ("initial",)


def subclasses(pools):
    """Axioms that make all other names of a pool subclasses of its first name."""
    return [("subclass", ("concept", name), ("concept", pool[0])) for pool in pools for name in pool[1:]]


class Rewrite(unittest.TestCase):
    def rewritten(self, ontology, query, *others):
        """The rewriting has exactly the query and the others, up to isomorphism."""
        found = rewrite(ontology, query)
        self.checked(ontology, query, found)
        self.assertEqual(sorted(form_of(derived) for derived, step in found), sorted(map(form_of, (query,) + others)), found)

    def checked(self, ontology, query, found):
        self.assertIsInstance(found, list)
        self.assertEqual(found[0], (query, INITIAL))
        for derived, step in found:
            self.assertIs(is_query(derived), True, derived)
            self.assertIs(is_slow_query(derived), True, derived)
        forms = [form_of(derived) for derived, step in found]
        self.assertEqual(len(set(forms)), len(forms))
        self.assertIs(is_rewriting(ontology, query, found), True, found)

    def test_no_step(self):
        for query in [(("x",), (("concept", "a", "x"),)), ((), (("role", "r", "x", T), ("concept", "a", "y")))]:
            self.rewritten([], query)
            self.rewritten([("disjoint", B, A), ("disjoint_roles", "s", "r"), ("disjoint_inverse", "s", "r"), ("functional", OUT)], query)
            self.rewritten([("subclass", A, B), ("subrole", "r", "s"), ("subclass", C, ("concept", "r"))], query)

    def test_subclass_of_a_concept_name(self):
        query = (("x",), (("concept", "a", "x"),))
        self.rewritten([("subclass", B, A)], query, (("x",), (("concept", "b", "x"),)))
        self.rewritten([("subclass", OUT, A)], query, (("x",), (("role", "r", "x", "y"),)))
        self.rewritten([("subclass", IN, A)], query, (("x",), (("role", "r", "y", "x"),)))
        self.rewritten([("subclass", A, A)], query)
        individual = ((T,), (("concept", "a", T),))
        self.rewritten([("subclass", OUT, A)], individual, ((T,), (("role", "r", T, "y"),)))

    def test_subclass_of_a_direction(self):
        out, within = ("subclass", A, OUT), ("subclass", A, IN)
        self.rewritten([out], (("x",), (("role", "r", "x", "y"),)), (("x",), (("concept", "a", "x"),)))
        self.rewritten([out], (("y",), (("role", "r", "x", "y"),)))
        self.rewritten([within], (("y",), (("role", "r", "x", "y"),)), (("y",), (("concept", "a", "y"),)))
        self.rewritten([within], (("x",), (("role", "r", "x", "y"),)))
        self.rewritten([out], ((T,), (("role", "r", T, "y"),)), ((T,), (("concept", "a", T),)))
        self.rewritten([out, within], ((), (("role", "r", "x", T),)), ((), (("concept", "a", T),)))
        self.rewritten([out, within], ((), (("role", "r", T, U),)))
        self.rewritten([("subclass", ("in", "s"), OUT)], (("x",), (("role", "r", "x", "y"),)), (("x",), (("role", "s", "y", "x"),)))
        self.rewritten([("subclass", ("out", "s"), IN)], (("x",), (("role", "r", "y", "x"),)), (("x",), (("role", "s", "x", "y"),)))

    def test_free_standing_variables(self):
        out = [("subclass", A, OUT)]
        self.rewritten(out, (("x",), (("role", "r", "x", "y"), ("concept", "b", "y"))))
        self.rewritten(out, (("x", "y"), (("role", "r", "x", "y"),)))
        self.rewritten(out, (("x",), (("role", "r", "x", "x"),)))
        self.rewritten(out, ((), (("role", "r", "x", "x"),)))
        self.rewritten(out, ((), (("role", "r", "x", "y"),)), ((), (("concept", "a", "x"),)))
        self.rewritten(out, ((), (("role", "r", "x", "y"), ("concept", "b", "x"))), ((), (("concept", "a", "x"), ("concept", "b", "x"))))

    def test_equal_patterns_count_once(self):
        out = [("subclass", A, OUT)]
        repeated = (("x",), (("role", "r", "x", "y"),) * 3)
        self.rewritten(out, repeated, (("x",), (("concept", "a", "x"),)))
        self.rewritten([("subclass", B, A)], (("x",), (("concept", "a", "x"),) * 4), (("x",), (("concept", "b", "x"),)))
        self.rewritten([("subrole", "s", "r")], (("x",), (("role", "r", "x", "y"), ("concept", "c", "x"), ("role", "r", "x", "y"))),
                       (("x",), (("role", "s", "x", "y"), ("concept", "c", "x"))))

    def test_role_axioms(self):
        query = (("x", "y"), (("role", "r", "x", "y"),))
        self.rewritten([("subrole", "s", "r")], query, (("x", "y"), (("role", "s", "x", "y"),)))
        self.rewritten([("subrole_inverse", "s", "r")], query, (("x", "y"), (("role", "s", "y", "x"),)))
        self.rewritten([("subrole_inverse", "r", "r")], query, (("x", "y"), (("role", "r", "y", "x"),)))
        self.rewritten([("subrole", "r", "r")], query)
        self.rewritten([("subrole_inverse", "s", "r")], ((), (("role", "r", T, U),)), ((), (("role", "s", U, T),)))

    def test_several_steps(self):
        ontology = [("subclass", B, A), ("subclass", C, B), ("subclass", IN, C), ("subrole_inverse", "s", "r"), ("subclass", ("concept", "d"), ("out", "s"))]
        query = (("x",), (("concept", "a", "x"),))
        others = [("concept", "b", "x"), ("concept", "c", "x"), ("role", "r", "y", "x"), ("role", "s", "x", "y"), ("concept", "d", "x")]
        self.rewritten(ontology, query, *[(("x",), (pattern,)) for pattern in others])
        cycle = [("subclass", A, B), ("subclass", B, C), ("subclass", C, A)]
        self.rewritten(cycle, query, (("x",), (("concept", "b", "x"),)), (("x",), (("concept", "c", "x"),)))

    def test_unify_makes_variables_free_standing(self):
        ontology = [("subclass", A, OUT)]
        query = (("x",), (("role", "r", "x", "y"), ("role", "r", "z", "y")))
        self.rewritten(ontology, query, (("x",), (("role", "r", "x", "y"),)), (("x",), (("concept", "a", "x"),)))
        query = (("x", "z"), (("role", "r", "x", "y"), ("role", "r", "z", "y")))
        self.rewritten(ontology, query, (("x", "x"), (("role", "r", "x", "y"),)), (("x", "x"), (("concept", "a", "x"),)))

    def test_unify_with_individuals(self):
        query = (("x",), (("role", "r", "x", "y"), ("role", "r", T, U)))
        self.rewritten([], query, ((T,), (("role", "r", T, U),)))
        query = (("x",), (("role", "r", "x", T), ("role", "r", "y", U)))
        self.rewritten([], query)
        query = ((), (("role", "r", "x", "x"), ("role", "r", T, "y"), ("concept", "a", "y")))
        self.rewritten([], query, ((), (("role", "r", T, T), ("concept", "a", T))))
        self.rewritten([], ((), (("role", "r", "x", "x"), ("role", "r", T, U))))
        self.rewritten([], ((), (("concept", "a", T), ("concept", "a", U))))
        self.rewritten([], (("x",), (("concept", "a", T), ("concept", "a", "x"))), ((T,), (("concept", "a", T),)))

    def test_unify_changes_the_other_patterns(self):
        query = (("x", "z"), (("role", "r", "x", "y"), ("role", "r", "z", "w"), ("concept", "a", "y"), ("concept", "b", "w")))
        self.rewritten([], query, (("x", "x"), (("role", "r", "x", "y"), ("concept", "a", "y"), ("concept", "b", "y"))))
        chain = ((), (("role", "r", "x", "y"), ("role", "r", "y", "z")))
        self.rewritten([], chain, ((), (("role", "r", "x", "x"),)))

    def test_against_all_steps(self):
        rng = random.Random(91)
        sizes = []
        while len([size for size in sizes if size > 10]) < 50:
            ontology = random_ontology(rng, ["a", "b"], ["r", "s"], positive=rng.randrange(9), negative=rng.randrange(2))
            query = random_query(rng, ["a", "b"], ["r", "s"], [T, U])
            forms = slow_closure(ontology, query)
            if forms is None or len(forms) > 200:
                self.assertRaises(LimitExceeded, rewrite, ontology, query)
                continue
            found = rewrite(ontology, query)
            self.assertEqual({form_of(derived) for derived, step in found}, forms)
            self.assertEqual(len(found), len(forms))
            self.assertIs(is_rewriting(ontology, query, found), True)
            if len(found) < 12:
                self.assertIs(is_slow_rewriting(ontology, query, found), True)
            sizes.append(len(found))

    def test_exactly_two_hundred_and_more(self):
        query = ((), (("concept", "a", "x"), ("concept", "b", "y"), ("concept", "c", "z"), ("concept", "d", "w")))
        pools = [["a", "ab", "ac", "ad", "ae"], ["b", "bb", "bc", "bd", "be"], ["c", "cb", "cc", "cd"], ["d", "db"]]
        found = rewrite(subclasses(pools), query)
        self.assertEqual(len(found), 200)
        self.checked(subclasses(pools), query, found)
        joined = (("x",), tuple(("concept", name, "x") for name in "abcd"))
        self.assertEqual(len(rewrite(subclasses(pools), joined)), 200)
        pools = [["a", "g", "h", "i"], ["b", "j"], ["c", "i", "e", "g", "k"], ["d", "l", "h", "j", "f", "g"]]
        self.assertEqual(len({frozenset((one, two, three, four)) for one in pools[0] for two in pools[1] for three in pools[2] for four in pools[3]}), 201)
        for ontology, asked in ((subclasses(pools), joined), (subclasses([list("aefg"), list("bhij"), list("cklm"), list("dnop")]), query)):
            with self.assertRaises(LimitExceeded) as caught:
                rewrite(ontology, asked)
            self.assertIsInstance(caught.exception, OverflowError)
            self.assertEqual(caught.exception.limit, 200)

    def test_new_lists_unchanged_arguments_and_names(self):
        ontology, query = [("subclass", B, A)], (("x",), (("concept", "a", "x"),))
        before = copy.deepcopy(ontology)
        first, second = rewrite(ontology, query), rewrite(ontology=tuple(ontology), query=query)
        self.assertEqual(first, second)
        ids = aliases(first) + aliases(second) + aliases(ontology)
        self.assertEqual(len(set(ids)), len(ids))
        first.clear()
        self.assertEqual(rewrite(ontology, query), second)
        self.assertEqual(ontology, before)


class IsRewriting(unittest.TestCase):
    ontology = [("subclass", B, A), ("subclass", C, OUT), ("subrole_inverse", "s", "r")]
    query = (("x",), (("concept", "a", "x"), ("role", "r", "x", "y")))

    def right(self):
        b = ("concept", "b", "x")
        a = ("concept", "a", "x")
        return [(self.query, INITIAL),
                ((("x",), (b, ("role", "r", "x", "y"))), ("axiom", 0, 0, 0)),
                ((("x",), (a, ("concept", "c", "x"))), ("axiom", 0, 1, 1)),
                ((("x",), (b, ("concept", "c", "x"))), ("axiom", 1, 1, 1)),
                ((("x",), (a, ("role", "s", "y", "x"))), ("axiom", 0, 1, 2)),
                ((("x",), (b, ("role", "s", "y", "x"))), ("axiom", 4, 0, 0))]

    def check(self, candidate, expected):
        self.assertIs(is_rewriting(self.ontology, self.query, candidate), expected, candidate)

    def test_accepted(self):
        right = self.right()
        self.check(right, True)
        self.assertIs(is_slow_rewriting(self.ontology, self.query, right), True)
        self.assertEqual(len(rewrite(self.ontology, self.query)), 6)
        other = list(right)
        other[3] = ((("u",), (("concept", "c", "u"), ("concept", "b", "u"), ("concept", "c", "u"))), ("axiom", 2, 0, 0))
        self.check(other, True)
        self.check(right + [right[3]], True)
        self.check(right + [((("v",), (("concept", "b", "v"), ("role", "s", "w", "v"))), ("axiom", 1, 1, 2))], True)
        self.assertIs(is_rewriting(ontology=self.ontology, query=self.query, candidate=right), True)

    def test_not_closed(self):
        right = self.right()
        for count in range(6):
            self.check(right[:count], False)
        self.check(right[:3] + right[4:], False)
        self.check(right[:1] + right[2:], False)

    def test_wrong_steps(self):
        right = self.right()
        for position, wrong in [(1, ("axiom", 0, 0, 1)), (1, ("axiom", 0, 1, 0)), (1, ("axiom", 1, 0, 0)), (1, ("axiom", 5, 0, 0)), (1, INITIAL),
                                (1, ("unify", 0, 0, 1)), (1, ("axiom", 0, 0, 3)), (1, ("axiom", 0, 2, 0)), (1, ("axiom", -1, 0, 0)),
                                (1, ("axiom", 0, -2, 0)), (1, ("axiom", 0, 0, -3)), (1, ("axiom", False, 0, 0)), (1, ("axiom", 0, False, 0)),
                                (1, ("axiom", 0, 0, False)), (3, ("axiom", True, 1, 1)), (1, ("axiom", 0, 0)), (1, ("axiom", 0, 0, 0, 0)),
                                (1, ["axiom", 0, 0, 0]), (1, None), (1, ()), (3, ("axiom", 3, 0, 0)), (3, ("axiom", 4, 0, 0)), (0, ("axiom", 0, 0, 0)),
                                (0, ("initial", 0)), (0, ["initial"]), (0, "initial"), (0, ()), (1, ("axiom", 0.0, 0, 0)), (1, ("Axiom", 0, 0, 0))]:
            self.check(right[:position] + [(right[position][0], wrong)] + right[position + 1:], False)

    def test_a_query_that_is_not_the_result_of_its_step(self):
        right = self.right()
        for position, wrong in [(1, self.query), (1, right[2][0]), (2, right[1][0]), (2, (("x",), (("concept", "a", "x"), ("concept", "c", "y")))),
                                (4, (("x",), (("concept", "a", "x"), ("role", "s", "x", "y")))), (4, ((), (("concept", "a", "x"), ("role", "s", "y", "x")))),
                                (4, (("x",), (("concept", "a", "x"), ("role", "s", "x", "x")))), (3, (("x",), (("concept", "b", "x"),)))]:
            self.check(right[:position] + [(wrong, right[position][1])] + right[position + 1:], False)

    def test_the_first_pair_is_the_query_itself(self):
        right = self.right()
        renamed = replaced(self.query, {"x": "z"})
        turned = (self.query[0], self.query[1][::-1])
        for other in (renamed, turned):
            self.assertIs(is_isomorphic(other, self.query), True)
            self.check([(other, INITIAL)] + right[1:], False)
            self.assertIs(is_rewriting(self.ontology, other, right), False)
        self.check(right[1:] + right[:1], False)

    def test_unify_steps(self):
        query = (("x", "z"), (("role", "r", "x", "y"), ("role", "r", "z", "y")))
        merged = (("v", "v"), (("role", "r", "v", "w"),))
        right = [(query, INITIAL), (merged, ("unify", 0, 0, 1))]
        self.assertIs(is_rewriting([], query, right), True)
        for wrong in [("unify", 0, 1, 0), ("unify", 0, 0, 0), ("unify", 0, 1, 1), ("unify", 0, 0, 2), ("unify", 1, 0, 1), ("unify", 0, 0, True),
                      ("unify", 0, -2, 1), ("unify", 0, 0, -1), ("unify", 0, False, 1), ("unify", 0, 0), ("axiom", 0, 0, 1), ("unify", 0, 0, 1, 1)]:
            self.assertIs(is_rewriting([], query, [right[0], (merged, wrong)]), False, wrong)
        for wrong in [(("v", "u"), (("role", "r", "v", "w"), ("role", "r", "u", "w"))), (("v",), (("role", "r", "v", "w"),)), (("v", "w"), (("role", "r", "v", "w"),)),
                      (("v", "v"), (("role", "r", "v", "v"),))]:
            self.assertIs(is_rewriting([], query, [right[0], (wrong, right[1][1])]), False, wrong)
        self.assertIs(is_rewriting([], query, right[:1]), False)
        for step in (("unify", 0, 0, 0), ("unify", 0, 1, 1)):
            self.assertIs(is_rewriting([], query, right + [(query, step)]), False, step)

    def test_equal_patterns_can_be_unified(self):
        query = (("x",), (("concept", "a", "x"), ("concept", "a", "x")))
        self.assertIs(is_rewriting([], query, [(query, INITIAL)]), True)
        self.assertIs(is_rewriting([], query, [(query, INITIAL), ((("x",), query[1][:1]), ("unify", 0, 0, 1))]), True)
        self.assertEqual(len(rewrite([], query)), 1)

    def test_wrong_pairs_and_any_value(self):
        right = self.right()
        for candidate in STRANGE + [tuple(right), [], {0: right[0]}, right[0]]:
            self.check(candidate, False)
        for position in range(len(right)):
            for strange in STRANGE + [list(right[position]), right[position] + (0,), right[position][:1]]:
                self.check(right[:position] + [strange] + right[position + 1:], False)
                self.check(right[:position] + [(strange, right[position][1])] + right[position + 1:], False)
                self.check(right[:position] + [(right[position][0], strange)] + right[position + 1:], False)

    def test_one_part_changed(self):
        ontology = [("subclass", B, A), ("subclass", OUT, B)]
        query = (("x",), (("concept", "a", "x"), ("concept", "b", "x")))
        right = rewrite(ontology, query)
        counts = {True: 0, False: 0}
        for candidate in with_parts_changed(right):
            found = is_rewriting(ontology, query, candidate)
            pairs = type(candidate) is list and all(type(pair) is tuple and len(pair) == 2 and is_slow_query(pair[0]) and type(pair[1]) is tuple
                                                    for pair in candidate)
            self.assertIs(found, pairs and is_slow_rewriting(ontology, query, candidate), candidate)
            counts[found] += 1
        self.assertGreater(counts[True], 3)
        self.assertGreater(counts[False], 1000)

    def test_random_lists_of_pairs(self):
        rng = random.Random(92)
        counts = {True: 0, False: 0}
        while min(counts.values()) < 60:
            ontology = random_ontology(rng, ["a", "b"], ["r"], positive=rng.randrange(4), negative=0)
            query = random_query(rng, ["a", "b"], ["r"], [T], most=2)
            if slow_closure(ontology, query, 12) is None:
                continue
            candidate = rewrite(ontology, query)
            change = rng.randrange(4)
            if change == 1:
                candidate.pop(rng.randrange(len(candidate)))
            elif change == 2:
                position = rng.randrange(len(candidate))
                names = variables_of(candidate[position][0])
                renamed = replaced(candidate[position][0], dict(zip(names, rng.sample("uvwxyz", len(names)))))
                candidate[position] = (renamed, candidate[position][1])
            elif change == 3:
                candidate.append((rng.choice(candidate)[0], rng.choice(candidate)[1]))
            expected = is_slow_rewriting(ontology, query, candidate)
            self.assertIs(is_rewriting(ontology, query, candidate), expected, (ontology, query, candidate))
            counts[expected] += 1

    def test_more_than_two_hundred_queries_may_be_accepted(self):
        right = self.right()
        self.check(right + [right[1]] * 250, True)

    def test_unchanged_arguments(self):
        right = self.right()
        before = copy.deepcopy((self.ontology, right))
        is_rewriting(self.ontology, self.query, right)
        self.assertEqual((self.ontology, right), before)


class Evaluate(unittest.TestCase):
    def test_of_lists(self):
        facts = [("concept", "a", U), ("concept", "b", T), ("concept", "b", U)]
        one, other = (("x",), (("concept", "a", "x"),)), (("x",), (("concept", "b", "x"),))
        self.assertEqual(evaluate_rewriting([], facts), [])
        self.assertEqual(evaluate_rewriting([(one, INITIAL)], facts), [(U,)])
        self.assertEqual(evaluate_rewriting([(one, INITIAL), (other, ("axiom", 0, 0, 0))], facts), [(T,), (U,)])
        self.assertEqual(evaluate_rewriting([(other, None), (one, "x")], tuple(facts)), [(T,), (U,)])
        self.assertEqual(evaluate_rewriting([(((), one[1]), INITIAL), (((), other[1]), INITIAL)], facts), [()])
        self.assertEqual(evaluate_rewriting([(((), one[1]), INITIAL)], []), [])
        self.assertEqual(evaluate_rewriting(rewriting=[(one, INITIAL)], facts=facts), [(U,)])

    def test_new_lists(self):
        facts, pairs = [("concept", "a", T)], [((("x",), (("concept", "a", "x"),)), INITIAL)]
        before = copy.deepcopy((facts, pairs))
        evaluate_rewriting(pairs, facts).clear()
        evaluate_rewriting([], facts).append(T)
        self.assertEqual((evaluate_rewriting(pairs, facts), evaluate_rewriting([], facts)), ([(T,)], []))
        self.assertEqual((facts, pairs), before)

    def test_certain_answers(self):
        """Of point 3, (b): the rewriting on the facts alone, for consistent facts; also other accepted rewritings."""
        rng = random.Random(93)
        compared = filled = 0
        while compared < 400:
            ontology = random_ontology(rng, ["a", "b"], ["r", "s"], positive=rng.randrange(8), negative=rng.randrange(2))
            query = random_query(rng, ["a", "b"], ["r", "s"], [T, U, ("z", "9")])
            try:
                found = rewrite(ontology, query)
            except LimitExceeded:
                continue
            compared += 1
            other = self.otherwise_written(rng, found)
            if len(found) < 40:
                self.assertIs(is_rewriting(ontology, query, other), True)
            for turn in range(3):
                facts = random_facts(rng, ["a", "b"], ["r", "s"], [T, U, V], rng.randrange(1, 6))
                if find_conflict(ontology, facts) is None:
                    expected = certain_answers(ontology, facts, query)
                    self.assertEqual(evaluate_rewriting(found, facts), expected, (ontology, facts, query))
                    self.assertEqual(evaluate_rewriting(other, facts), expected)
                    self.assertEqual(sorted({answer for derived, step in found for answer in slow_evaluate(facts, derived)}), expected)
                    self.assertEqual(sorted({answer for derived, step in found for answer in evaluate(facts, derived)}), expected)
                    filled += expected != []
        self.assertGreater(filled, 100)

    def otherwise_written(self, rng, found):
        """The rewriting with other variables; the order of patterns stays, because steps refer to it."""
        pairs = found[:1]
        for derived, step in found[1:]:
            names = variables_of(derived)
            pairs.append((replaced(derived, dict(zip(names, rng.sample("abcdefghijkl", len(names))))), step))
        return pairs + [pair for pair in pairs[1:] if rng.randrange(4) == 0]


if __name__ == "__main__":
    unittest.main()
