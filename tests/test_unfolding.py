import copy
import random
import unittest

from factsandfar.errors import LimitExceeded
from factsandfar.mappings import check_mappings, mapped_facts
from factsandfar.queries import evaluate
from factsandfar.rewriting import rewrite
from factsandfar.unfolding import evaluate_on_tables, unfold
from oracles import (
    aliases, is_word, random_mapping, random_ontology, random_query, random_tables, slow_choices, slow_list_answers, slow_table_answers,
    table_form)

T, U, V = ("p", "1"), ("p", "2"), ("q", "x")
STAFF = ((("staff", ("e", "t")),), ("role", "worksin", ("emp", "e"), ("team", "t")))


def concept_mapping(table, name, word="p"):
    return (((table, ("e",)),), ("concept", name, (word, "e")))


class Unfold(unittest.TestCase):
    def unfolded(self, mappings, queries, *expected):
        """Exactly these table queries, in this order, up to isomorphism."""
        found = unfold(mappings, queries)
        self.well_formed(found)
        self.assertEqual([table_form(query) for query in found], [table_form(query) for query in expected], found)

    def well_formed(self, found):
        self.assertIsInstance(found, list)
        for answer_terms, body in found:
            self.assertEqual((type(answer_terms), type(body)), (tuple, tuple))
            variables = [term for table, terms in body for term in terms if isinstance(term, str)]
            for word, term in answer_terms:
                self.assertTrue(is_word(word) and (term in variables or term[0] == "value" and len(term) == 2), term)
            self.assertTrue(all(is_word(variable) for variable in variables))
            self.assertTrue(all(type(item) is tuple and type(item[1]) is tuple for item in body))

    def test_one_mapping(self):
        self.unfolded([STAFF], [(("x",), (("role", "worksin", "x", "y"),))], ((("emp", "a"),), (("staff", ("a", "b")),)))
        self.unfolded([STAFF], [(("y", "x"), (("role", "worksin", "x", "y"),))], ((("team", "b"), ("emp", "a")), (("staff", ("a", "b")),)))
        self.unfolded([STAFF], [((), (("concept", "worksin", "x"),))])
        self.unfolded([STAFF], [((), (("role", "leads", "x", "y"),))])
        self.unfolded([], [((), (("role", "leads", "x", "y"),))])
        self.unfolded([STAFF], [])

    def test_choices_in_their_order(self):
        mappings = [concept_mapping("t", "a"), concept_mapping("u", "b"), concept_mapping("v", "a"), concept_mapping("w", "b")]
        query = (("x", "y"), (("concept", "b", "x"), ("concept", "a", "y")))
        expected = [((("p", "x"), ("p", "y")), ((one, ("x",)), (other, ("y",)))) for one in ("u", "w") for other in ("t", "v")]
        self.unfolded(mappings, [query], *expected)
        self.unfolded(tuple(mappings), [query, (("x", "x"), (("concept", "a", "x"),)), query], *expected,
                      *[((("p", "x"), ("p", "x")), ((table, ("x",)),)) for table in ("t", "v")])

    def test_the_body_is_the_bodies_in_order(self):
        mappings = [((("t", ("e",)), ("u", ("e",))), ("concept", "a", ("p", "e"))), ((("v", ("e",)), ("t", ("f",))), ("concept", "b", ("p", "f")))]
        found = unfold(mappings, [((), (("concept", "b", "x"), ("concept", "a", "y"), ("concept", "b", "z")))])
        self.assertEqual([[table for table, terms in body] for answer_terms, body in found], [["v", "t", "t", "u", "v", "t"]])

    def test_templates_with_different_words(self):
        mappings = [concept_mapping("t", "a"), concept_mapping("u", "a", "q"), concept_mapping("v", "b"), concept_mapping("w", "b", "q")]
        query = (("x",), (("concept", "a", "x"), ("concept", "b", "x")))
        self.unfolded(mappings, [query], ((("p", "x"),), (("t", ("x",)), ("v", ("x",)))), ((("q", "x"),), (("u", ("x",)), ("w", ("x",)))))
        loop = ((), (("role", "worksin", "x", "x"),))
        self.unfolded([STAFF], [loop])
        same = ((("staff", ("e", "t")),), ("role", "worksin", ("emp", "e"), ("emp", "t")))
        self.unfolded([same], [loop], ((), (("staff", ("x", "x")),)))

    def test_individuals(self):
        query = (("x",), (("role", "worksin", "x", ("team", "sales")),))
        self.unfolded([STAFF], [query], ((("emp", "x"),), (("staff", ("x", ("value", "sales"))),)))
        self.unfolded([STAFF], [(("x",), (("role", "worksin", "x", ("emp", "sales")),))])
        self.unfolded([STAFF], [((T, "x"), (("role", "worksin", "x", "y"),))], ((("p", ("value", "1")), ("emp", "x")), (("staff", ("x", "y")),)))
        self.unfolded([STAFF], [((("emp", "a"),), (("role", "worksin", ("emp", "a"), "y"),))],
                      ((("emp", ("value", "a")),), (("staff", (("value", "a"), "y")),)))
        self.unfolded([STAFF], [((), (("role", "worksin", ("emp", "a"), ("team", "b")),))], ((), (("staff", (("value", "a"), ("value", "b"))),)))

    def test_one_template_for_two_individuals(self):
        same = ((("t", ("e",)),), ("role", "r", ("p", "e"), ("p", "e")))
        self.unfolded([same], [((), (("role", "r", T, U),))])
        self.unfolded([same], [((), (("role", "r", T, T),))], ((), (("t", (("value", "1"),)),)))
        self.unfolded([same], [(("x",), (("role", "r", T, "x"),))], ((("p", ("value", "1")),), (("t", (("value", "1"),)),)))
        self.unfolded([same], [(("x",), (("role", "r", "x", U),))], ((("p", ("value", "2")),), (("t", (("value", "2"),)),)))
        chain = (("x", "y"), (("role", "r", "x", "y"), ("role", "r", "y", T)))
        self.unfolded([same], [chain], ((("p", ("value", "1")), ("p", ("value", "1"))), (("t", (("value", "1"),)),) * 2))
        self.unfolded([same], [(("x",), (("role", "r", "x", T), ("role", "r", "x", U)))])

    def test_constants_of_mappings(self):
        mapping = ((("staff", ("e", ("value", "sales"))),), ("concept", "seller", ("emp", "e")))
        self.unfolded([mapping], [(("x",), (("concept", "seller", "x"),))], ((("emp", "x"),), (("staff", ("x", ("value", "sales"))),)))
        self.unfolded([mapping], [((), (("concept", "seller", ("emp", "ann")),))], ((), (("staff", (("value", "ann"), ("value", "sales"))),)))

    def test_renamed_apart(self):
        path = (("x", "z"), (("role", "r", "x", "y"), ("role", "r", "y", "z")))
        mapping = ((("t", ("x", "y", "z")),), ("role", "r", ("p", "y"), ("p", "x")))
        self.unfolded([mapping], [path], ((("p", "a"), ("p", "b")), (("t", ("c", "a", "d")), ("t", ("b", "c", "e")))))
        apart = ((), (("role", "r", "x", "y"), ("role", "r", "z", "w"), ("role", "r", "u", "v"), ("role", "r", "s", "t")))
        body = unfold([mapping], [apart])[0][1]
        self.assertEqual(len({term for table, terms in body for term in terms}), 12)
        two = ((("t", ("x", "y", "z")), ("t", ("d", "e", "f"))), ("role", "r", ("p", "y"), ("p", "d")))
        body = unfold([two], [apart])[0][1]
        self.assertEqual(len({term for table, terms in body for term in terms}), 24)
        self.well_formed(unfold([two], [apart]))

    def test_isomorphic_ones(self):
        first, second = concept_mapping("t", "a"), concept_mapping("t", "a")
        query = (("x",), (("concept", "a", "x"),))
        self.unfolded([first, second, first], [query, (("y",), (("concept", "a", "y"),))], ((("p", "x"),), (("t", ("x",)),)))
        other_word = concept_mapping("t", "a", "q")
        self.unfolded([first, other_word], [query], ((("p", "x"),), (("t", ("x",)),)), ((("q", "x"),), (("t", ("x",)),)))
        self.unfolded([first, other_word], [((), query[1])], ((), (("t", ("x",)),)))
        pair = ((), (("concept", "a", "x"), ("concept", "a", "y")))
        mixed = [concept_mapping("t", "a"), concept_mapping("u", "a")]
        self.unfolded(mixed, [pair], ((), (("t", ("x",)), ("t", ("y",)))), ((), (("t", ("x",)), ("u", ("y",)))), ((), (("u", ("x",)), ("u", ("y",)))))
        repeated = (("x",), (("concept", "a", "x"), ("concept", "a", "x")))
        self.unfolded([first], [query, repeated], ((("p", "x"),), (("t", ("x",)),)))
        found = unfold([first], [repeated, query])
        self.assertEqual([len(body) for answer_terms, body in found], [2])

    def test_four_hundred_choices(self):
        tables = "tuvw"
        mappings = [concept_mapping(table, "a") for table in tables] + [concept_mapping(table, "b") for table in tables[:3]] + [concept_mapping("t", "c")]
        most = ((), (("concept", "a", "x"), ("concept", "a", "y"), ("concept", "a", "z"), ("concept", "a", "w")))
        rest = ((), (("concept", "a", "x"), ("concept", "a", "y"), ("concept", "b", "z"), ("concept", "b", "w")))
        one = ((), (("concept", "c", "x"),))
        none = ((), (("concept", "d", "x"),))
        self.assertEqual([len(slow_choices(mappings, query)) for query in (most, rest, one, none)], [256, 144, 1, 0])
        self.assertEqual(len(unfold(mappings, [most])), 35)
        self.assertEqual(len(unfold(mappings, [most, rest])), 35)
        self.assertEqual(len(unfold(mappings, [rest, none, most, none])), 35)
        for queries in ([most, rest, one], [one, most, rest], [most, most], [one] * 401):
            with self.assertRaises(LimitExceeded) as caught:
                unfold(mappings, queries)
            self.assertIsInstance(caught.exception, OverflowError)
            self.assertEqual(caught.exception.limit, 400)
        self.assertEqual(len(unfold(mappings, [one] * 400)), 1)

    def test_choices_without_a_table_query_do_not_count(self):
        mappings = [concept_mapping("t", "a", word) for word in "pqrstuvw"]
        query = ((), (("concept", "a", "x"),) * 4)
        self.assertEqual(len(unfold(mappings, [query])), 1)
        self.assertEqual(len(unfold(mappings, [query] * 50)), 1)
        self.assertRaises(LimitExceeded, unfold, mappings, [query] * 50 + [((), (("concept", "a", T),))])

    def test_against_all_choices(self):
        rng = random.Random(131)
        several = 0
        while several < 80:
            mappings = [random_mapping(rng, ["a"], ["r"], items=rng.randrange(1, 3)) for number in range(rng.randrange(1, 5))]
            queries = [random_query(rng, ["a"], ["r"], [T, U, V], most=2) for number in range(rng.randrange(1, 3))]
            expected, forms = [], []
            for unfolded in [unfolded for query in queries for unfolded in slow_choices(mappings, query)]:
                if table_form(unfolded) not in forms:
                    forms.append(table_form(unfolded))
                    expected.append(unfolded)
            found = unfold(mappings, queries)
            self.well_formed(found)
            self.assertEqual([table_form(query) for query in found], forms, (mappings, queries))
            for query, unfolded in zip(found, expected):
                self.assertEqual([table for table, terms in query[1]], [table for table, terms in unfolded[1]])
            several += len(found) > 2

    def test_new_lists_unchanged_arguments_and_names(self):
        mappings, queries = [STAFF], [(("x",), (("role", "worksin", "x", "y"),))]
        before = copy.deepcopy((mappings, queries))
        first, second = unfold(mappings, queries), unfold(mappings=mappings, queries=queries)
        self.assertEqual(first, second)
        self.assertEqual(len(set(aliases(first) + aliases(second) + aliases((mappings, queries)))), 4)
        self.assertEqual((mappings, queries), before)


class Evaluate(unittest.TestCase):
    tables = {"t": ("s", 2, [("a", "b"), ("b", "b"), ("c", "a")]), "u": ("z", 1, [("b",)]), "v": ("z", 3, [])}

    def answers(self, queries, expected):
        self.assertEqual(slow_table_answers(self.tables, queries), expected, "the test is wrong")
        self.assertEqual(evaluate_on_tables(self.tables, queries), expected)
        self.assertEqual(evaluate_on_tables({name: self.tables[name] for name in "vut"}, queries), expected)

    def test_sorted_without_duplicates(self):
        self.answers([], [])
        self.answers([((("p", "x"),), (("t", ("x", "y")),))], [(("p", "a"),), (("p", "b"),), (("p", "c"),)])
        self.answers([((("p", "y"),), (("t", ("x", "y")),))], [(("p", "a"),), (("p", "b"),)])
        self.answers([((("q", "y"),), (("u", ("y",)),)), ((("p", "y"),), (("t", ("x", "y")),)), ((("p", "y"),), (("u", ("y",)),))],
                     [(("p", "a"),), (("p", "b"),), (("q", "b"),)])
        self.answers([((("p", "x"),), (("v", ("x", "y", "z")),))], [])

    def test_constants(self):
        self.answers([((("p", "x"),), (("t", ("x", ("value", "b"))),))], [(("p", "a"),), (("p", "b"),)])
        self.answers([((("p", ("value", "9")), ("q", "x")), (("t", (("value", "c"), "x")),))], [(("p", "9"), ("q", "a"))])
        self.answers([((("p", ("value", "9")),), (("t", (("value", "x"), "x")),))], [])
        self.answers([((), (("t", (("value", "a"), ("value", "b"))),))], [()])
        self.answers([((), (("t", (("value", "b"), ("value", "a"))),))], [])

    def test_repeated_variables(self):
        self.answers([((("p", "x"),), (("t", ("x", "x")),))], [(("p", "b"),)])
        self.answers([((("p", "x"), ("p", "z")), (("t", ("x", "y")), ("t", ("y", "z"))))], [(("p", "a"), ("p", "b")), (("p", "b"), ("p", "b")), (("p", "c"), ("p", "b"))])
        self.answers([((("p", "x"), ("q", "x")), (("u", ("x",)),))], [(("p", "b"), ("q", "b"))])
        self.answers([((("p", "x"),), (("t", ("x", "y")), ("u", ("y",)), ("t", ("z", "x"))))], [(("p", "a"),), (("p", "b"),)])

    def test_without_answer_terms(self):
        self.answers([((), (("u", ("x",)),))], [()])
        self.answers([((), (("v", ("x", "y", "z")),)), ((), (("u", ("x",)),))], [()])
        self.answers([((), (("v", ("x", "y", "z")),))], [])

    def test_any_number_of_items(self):
        self.answers([((("p", ("value", "1")),), ())], [(("p", "1"),)])
        self.answers([((), ())], [()])
        self.answers([((("p", "a"),), tuple(("t", (one, other)) for one, other in ("ab", "bc", "cd", "de", "ef", "fg", "gh")))], [(("p", "a"),), (("p", "b"),), (("p", "c"),)])

    def test_many_items_that_are_not_connected(self):
        rows = [(value, value) for value in "abcdefghijkl"]
        body = tuple(("t", ("x" + one, "y" + one)) for one in "abcdefgh")
        self.assertEqual(evaluate_on_tables({"t": ("s", 2, rows)}, [((("p", "xa"),), body)]), [(("p", value),) for value in "abcdefghijkl"])

    def test_the_answers_of_the_queries_on_the_mapped_facts(self):
        """Of point 3, (c)."""
        rng = random.Random(132)
        filled = turn = 0
        while filled < 150:
            turn += 1
            tables = random_tables(rng)
            mappings = [random_mapping(rng, ["a", "b"], ["r"]) for number in range(rng.randrange(1, 6))]
            self.assertIsNone(check_mappings(tables, mappings))
            queries = [random_query(rng, ["a", "b"], ["r"], [T, U, V], most=3) for number in range(rng.randrange(1, 3))]
            queries = [query for query in queries if len(query[0]) == len(queries[0][0])]
            facts = mapped_facts(mappings, tables)
            expected = sorted({answer for query in queries for answer in evaluate(facts, query)})
            unfolded = unfold(mappings, queries)
            self.assertEqual(evaluate_on_tables(tables, unfolded), expected, (mappings, tables, queries))
            if turn < 100:
                self.assertEqual(slow_table_answers(tables, unfolded), expected)
                self.assertEqual(sorted(slow_list_answers(queries, facts)), expected)
            filled += expected != []

    def test_unfolded_rewritings(self):
        rng = random.Random(133)
        filled = 0
        while filled < 30:
            ontology = random_ontology(rng, ["a", "b"], ["r"], positive=rng.randrange(1, 5), negative=0)
            tables = random_tables(rng)
            mappings = [random_mapping(rng, ["a", "b"], ["r"]) for number in range(3)]
            try:
                queries = [query for query, step in rewrite(ontology, random_query(rng, ["a", "b"], ["r"], [T, U], most=3))]
                unfolded = unfold(mappings, queries)
            except LimitExceeded:
                continue
            facts = mapped_facts(mappings, tables)
            expected = sorted({answer for query in queries for answer in evaluate(facts, query)})
            self.assertEqual(evaluate_on_tables(tables, unfolded), expected)
            filled += expected != []

    def test_new_lists_unchanged_arguments_and_names(self):
        queries = [((("p", "x"),), (("u", ("x",)),))]
        tables = copy.deepcopy(self.tables)
        evaluate_on_tables(tables, queries).clear()
        self.assertEqual(evaluate_on_tables(tables=tables, queries=queries), [(("p", "b"),)])
        self.assertEqual((tables, queries), (self.tables, [((("p", "x"),), (("u", ("x",)),))]))


if __name__ == "__main__":
    unittest.main()
