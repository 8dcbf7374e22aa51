import copy
import itertools
import random
import unittest

from factsandfar.errors import InvalidStep, OntologyError
from factsandfar.mappings import mapped_facts
from factsandfar.simplification import apply_step, redundant_mappings, simplification_steps
from factsandfar.tables import check_constraints
from oracles import (
    STRANGE, aliases, is_slowly_satisfied, ordered_form, random_constraints, random_mapping, random_table_query, random_tables,
    slow_redundant_mappings, slow_simplifications, slow_table_answers, with_parts_changed)

ONE, TWO = ("value", "1"), ("value", "2")
KEY = [("key", "u", 0)]
FOREIGN = [("foreign_key", "u", 1, "v", 0)]


def all_steps(constraints, query):
    positions = range(len(query[1]))
    return [(constraint[0], index, item, other) for index, constraint in enumerate(constraints) for item in positions for other in positions]


class Steps(unittest.TestCase):
    def result(self, constraints, query, step, expected):
        """The result, up to the names of variables, with its items in this order."""
        found = apply_step(constraints, query, step)
        self.assertEqual(ordered_form(found), ordered_form(expected), found)
        self.assertEqual([ordered_form(result) for result in slow_simplifications(constraints, query, step)], [ordered_form(expected)], "the test is wrong")

    def impossible(self, constraints, query, *steps):
        for step in steps:
            with self.assertRaises(InvalidStep, msg=repr(step)) as caught:
                apply_step(constraints, query, step)
            self.assertIsInstance(caught.exception, OntologyError)


class Keys(Steps):
    def test_variables(self):
        query = ((("p", "d"),), (("u", ("d", "e")), ("u", ("d", "f"))))
        self.result(KEY, query, ("key", 0, 0, 1), ((("p", "d"),), (("u", ("d", "e")),)))
        self.result([("key", "u", 1)], ((), (("u", ("d", "e")), ("u", ("f", "e")))), ("key", 0, 0, 1), ((), (("u", ("d", "e")),)))
        self.result([("key", "v", 1)], ((), (("v", ("d", "e", "f")), ("v", ("g", "e", "h")))), ("key", 0, 0, 1), ((), (("v", ("d", "e", "f")),)))

    def test_variables_elsewhere_and_in_the_answer_terms(self):
        query = ((("p", "f"), ("q", "e")), (("u", ("d", "e")), ("t", ("f",)), ("u", ("d", "f"))))
        self.result(KEY, query, ("key", 0, 0, 2), ((("p", "e"), ("q", "e")), (("u", ("d", "e")), ("t", ("e",)))))

    def test_values(self):
        query = ((("p", "e"),), (("u", (ONE, "e")), ("u", (ONE, TWO)), ("t", ("e",))))
        self.result(KEY, query, ("key", 0, 0, 1), ((("p", TWO),), (("u", (ONE, TWO)), ("t", (TWO,)))))
        query = ((("p", "f"),), (("u", ("d", TWO)), ("u", ("d", "f"))))
        self.result(KEY, query, ("key", 0, 0, 1), ((("p", TWO),), (("u", ("d", TWO)),)))
        self.result(KEY, ((), (("u", ("d", TWO)), ("u", ("d", TWO)))), ("key", 0, 0, 1), ((), (("u", ("d", TWO)),)))

    def test_two_different_values(self):
        self.result(KEY, ((), (("u", ("d", ONE)), ("u", ("d", TWO)))), ("key", 0, 0, 1), None)
        self.result([("key", "v", 2)], ((("p", "d"),), (("v", ("d", "d", "e")), ("t", ("d",)), ("v", (ONE, TWO, "e")))), ("key", 0, 0, 2), None)
        self.result([("key", "v", 0)], ((), (("v", ("d", "e", ONE)), ("v", ("d", TWO, "e")))), ("key", 0, 0, 1), None)
        self.result([("key", "v", 0)], ((), (("v", ("d", "e", "e")), ("v", ("d", ONE, TWO)))), ("key", 0, 0, 1), None)
        self.result([("key", "v", 0)], ((), (("v", ("d", "e", "f")), ("v", ("d", ONE, TWO)))), ("key", 0, 0, 1), ((), (("v", ("d", ONE, TWO)),)))

    def test_equal_terms(self):
        same = ("u", ("d", "e"))
        self.result(KEY, ((("p", "e"),), (same, same)), ("key", 0, 0, 1), ((("p", "e"),), (same,)))
        self.result([("key", "u", 1)], ((("p", "e"),), (same, same, same)), ("key", 0, 1, 2), ((("p", "e"),), (same, same)))
        self.result([("key", "t", 0)], ((), (("t", ("d",)), ("t", ("d",)))), ("key", 0, 0, 1), ((), (("t", ("d",)),)))

    def test_the_key_term_itself_becomes_another(self):
        query = ((("p", "d"),), (("u", ("d", "e")), ("u", ("d", "d")), ("t", ("e",))))
        self.result(KEY, query, ("key", 0, 0, 1), ((("p", "d"),), (("u", ("d", "d")), ("t", ("d",)))))
        query = ((("p", "d"),), (("u", ("d", ONE)), ("u", ("d", "d"))))
        self.result(KEY, query, ("key", 0, 0, 1), ((("p", ONE),), (("u", (ONE, ONE)),)))

    def test_the_others_keep_their_order(self):
        query = ((), (("t", ("e",)), ("u", ("d", "e")), ("v", ("d", "e", "f")), ("u", ("d", "f")), ("t", ("f",)), ("v", ("g", "f", "g"))))
        expected = ((), (("t", ("e",)), ("u", ("d", "e")), ("v", ("d", "e", "e")), ("t", ("e",)), ("v", ("g", "e", "g"))))
        self.result(KEY, query, ("key", 0, 1, 3), expected)

    def test_other_tables_and_other_terms(self):
        self.impossible(KEY, ((), (("u", ("d", "e")), ("u", ("f", "e")))), ("key", 0, 0, 1))
        self.impossible(KEY, ((), (("u", (ONE, "e")), ("u", (TWO, "e")))), ("key", 0, 0, 1))
        self.impossible(KEY, ((), (("u", (ONE, "e")), ("u", ("d", "e")))), ("key", 0, 0, 1))
        self.impossible([("key", "t", 0)], ((), (("u", ("d", "e")), ("u", ("d", "e")))), ("key", 0, 0, 1))
        self.impossible([("key", "t", 0)], ((), (("t", ("d",)), ("u", ("d", "e")))), ("key", 0, 0, 1))

    def test_the_first_has_the_smaller_index(self):
        query = ((), (("u", ("d", "e")), ("u", ("d", "f"))))
        self.impossible(KEY, query, ("key", 0, 1, 0), ("key", 0, 0, 0), ("key", 0, 1, 1))


class ForeignKeys(Steps):
    def test_possible(self):
        query = ((("p", "d"),), (("u", ("d", "e")), ("v", ("e", "f", "g"))))
        self.result(FOREIGN, query, ("foreign_key", 0, 0, 1), ((("p", "d"),), (("u", ("d", "e")),)))
        query = ((("p", "e"),), (("v", ("e", "f", "g")), ("t", ("e",)), ("u", ("d", "e"))))
        self.result(FOREIGN, query, ("foreign_key", 0, 2, 0), ((("p", "e"),), (("t", ("e",)), ("u", ("d", "e")))))
        self.result(FOREIGN, ((), (("u", ("d", ONE)), ("v", (ONE, "f", "g")))), ("foreign_key", 0, 0, 1), ((), (("u", ("d", ONE)),)))
        self.result([("foreign_key", "u", 0, "t", 0)], ((), (("u", ("d", "d")), ("t", ("d",)))), ("foreign_key", 0, 0, 1), ((), (("u", ("d", "d")),)))

    def test_another_term_occurs_elsewhere(self):
        step = ("foreign_key", 0, 0, 1)
        for body in ((("u", ("d", "e")), ("v", ("e", "d", "g"))), (("u", ("d", "e")), ("v", ("e", "f", "g")), ("t", ("g",))),
                     (("u", ("d", "e")), ("v", ("e", "f", "g")), ("v", ("e", "f", "h")))):
            self.impossible(FOREIGN, ((), body), step)

    def test_another_term_twice_in_the_item(self):
        for terms in (("e", "f", "f"), ("e", "e", "f"), ("e", "f", "e"), ("e", "e", "e")):
            self.impossible(FOREIGN, ((), (("u", ("d", "e")), ("v", terms))), ("foreign_key", 0, 0, 1))

    def test_another_term_in_the_answer_terms(self):
        body = (("u", ("d", "e")), ("v", ("e", "f", "g")))
        for answer_terms in ((("p", "f"),), (("q", "d"), ("p", "g"))):
            self.impossible(FOREIGN, (answer_terms, body), ("foreign_key", 0, 0, 1))
        self.result(FOREIGN, ((("p", "e"), ("p", ONE)), body), ("foreign_key", 0, 0, 1), ((("p", "e"), ("p", ONE)), body[:1]))

    def test_another_term_is_a_value(self):
        self.impossible(FOREIGN, ((), (("u", ("d", "e")), ("v", ("e", ONE, "g")))), ("foreign_key", 0, 0, 1))
        self.impossible(FOREIGN, ((), (("u", ("d", "e")), ("v", ("e", "f", TWO)))), ("foreign_key", 0, 0, 1))

    def test_other_tables_and_other_terms(self):
        query = ((), (("u", ("d", "e")), ("v", ("d", "f", "g")), ("v", ("h", "e", "i")), ("t", ("e",))))
        self.impossible(FOREIGN, query, *[("foreign_key", 0, item, other) for item in range(4) for other in range(4)])

    def test_from_a_table_to_itself(self):
        own = [("foreign_key", "u", 1, "u", 0)]
        query = ((("p", "d"),), (("u", ("d", "e")), ("u", ("e", "f")), ("u", ("g", "d"))))
        self.result(own, query, ("foreign_key", 0, 0, 1), ((("p", "d"),), (("u", ("d", "e")), ("u", ("g", "d")))))
        self.impossible(own, query, ("foreign_key", 0, 1, 0), ("foreign_key", 0, 2, 0), ("foreign_key", 0, 0, 2))
        self.impossible(own, ((), (("u", ("d", "d")),)), ("foreign_key", 0, 0, 0))
        same = [("foreign_key", "t", 0, "t", 0)]
        twice = ((("p", "d"),), (("t", ("d",)), ("t", ("d",))))
        for step in (("foreign_key", 0, 0, 1), ("foreign_key", 0, 1, 0)):
            self.result(same, twice, step, ((("p", "d"),), (("t", ("d",)),)))
        self.impossible(same, twice, ("foreign_key", 0, 0, 0), ("foreign_key", 0, 1, 1))
        column = [("foreign_key", "u", 0, "u", 0)]
        self.result(column, ((), (("u", ("d", "e")), ("u", ("d", "f")))), ("foreign_key", 0, 1, 0), ((), (("u", ("d", "f")),)))


class WrongSteps(Steps):
    constraints = KEY + FOREIGN + [("key", "v", 0)]
    query = ((("p", "d"),), (("u", ("d", "e")), ("u", ("d", "f")), ("v", ("e", "g", "h"))))

    def test_possible_ones(self):
        self.result(self.constraints, self.query, ("key", 0, 0, 1), ((("p", "d"),), (("u", ("d", "e")), ("v", ("e", "g", "h")))))
        self.result(self.constraints, self.query, ("foreign_key", 1, 0, 2), ((("p", "d"),), (("u", ("d", "e")), ("u", ("d", "f")))))

    def test_wrong_kind_of_constraint(self):
        self.impossible(self.constraints, self.query, ("foreign_key", 0, 0, 1), ("key", 1, 0, 2), ("key", 2, 0, 1), ("key", 1, 0, 1), ("foreign_key", 2, 0, 2))

    def test_indexes_out_of_range(self):
        self.impossible(self.constraints, self.query, ("key", 3, 0, 1), ("key", -1, 0, 1), ("key", -3, 0, 1), ("key", 0, 0, 3), ("key", 0, -3, 1),
                        ("key", 0, 0, -2), ("foreign_key", -2, 0, 2), ("foreign_key", 1, 0, -1), ("foreign_key", 1, -3, 2), ("foreign_key", 1, 3, 2))
        self.impossible([], self.query, ("key", 0, 0, 1))
        self.impossible(self.constraints, ((), ()), ("key", 0, 0, 1), ("key", 0, 0, 0))

    def test_true_and_false(self):
        self.impossible(self.constraints, self.query, ("key", False, 0, 1), ("key", 0, False, 1), ("key", 0, 0, True), ("foreign_key", True, 0, 2),
                        ("foreign_key", 1, False, 2))

    def test_any_value(self):
        self.impossible(self.constraints, self.query, *STRANGE)
        self.impossible(self.constraints, self.query, "key", ("key",), ["key", 0, 0, 1], ("Key", 0, 0, 1), ("key", 0, 0, 1, 0), ("key", 0, 0), (b"key", 0, 0, 1))

    def test_one_part_changed(self):
        for step in (("key", 0, 0, 1), ("foreign_key", 1, 0, 2)):
            for changed in with_parts_changed(step):
                self.impossible(self.constraints, self.query, changed)


class Simplify(Steps):
    def applied(self, constraints, query):
        """The result of the steps, each of which must be possible; then no step is, or the result is None."""
        steps = simplification_steps(constraints, query)
        self.assertIsInstance(steps, list)
        for position, step in enumerate(steps):
            self.assertIsNotNone(query)
            results = slow_simplifications(constraints, query, step)
            query = apply_step(constraints, query, step)
            self.assertEqual([ordered_form(query)], [ordered_form(result) for result in results], step)
        if query is not None:
            self.assertEqual([step for step in all_steps(constraints, query) if slow_simplifications(constraints, query, step)], [])
        return query

    def test_no_step(self):
        query = ((), (("u", ("d", "e")), ("u", ("f", "e"))))
        self.assertEqual(simplification_steps([], query), [])
        self.assertEqual(simplification_steps(KEY + FOREIGN, query), [])
        self.assertEqual(simplification_steps(KEY, ((), ())), [])

    def test_several_steps(self):
        constraints = KEY + FOREIGN
        query = ((("p", "d"),), (("u", ("d", "e")), ("v", ("e", "h", "i")), ("u", ("d", "f")), ("v", ("f", "g", "j"))))
        self.assertEqual(len(simplification_steps(constraints, query)), 3)
        self.assertEqual(ordered_form(self.applied(constraints, query)), ordered_form(((("p", "d"),), (("u", ("d", "e")),))))

    def test_a_step_that_makes_another_possible(self):
        constraints = [("key", "u", 0), ("key", "v", 0)]
        query = ((("p", "h"),), (("v", ("e", "g", ONE)), ("v", ("f", "h", ONE)), ("u", ("d", "e")), ("u", ("d", "f"))))
        result = self.applied(constraints, query)
        self.assertEqual(ordered_form(result), ordered_form(((("p", "g"),), (("v", ("e", "g", ONE)), ("u", ("d", "e"))))))

    def test_no_answers(self):
        constraints = [("key", "u", 0), ("key", "v", 0)]
        query = ((), (("v", ("e", "g", ONE)), ("v", ("f", "h", TWO)), ("u", ("d", "e")), ("u", ("d", "f"))))
        self.assertIsNone(self.applied(constraints, query))

    def test_all_steps_and_results(self):
        rng = random.Random(141)
        possible = empty = 0
        while possible < 400 or empty < 20:
            constraints = random_constraints(rng, rng.randrange(1, 5))
            self.assertIsNone(check_constraints(random_tables(rng), constraints))
            query = random_table_query(rng)
            for step in all_steps(constraints, query):
                results = slow_simplifications(constraints, query, step)
                if results:
                    self.result(constraints, query, step, results[0])
                    possible += 1
                    empty += results[0] is None
                else:
                    self.impossible(constraints, query, step)
            self.applied(constraints, query)

    def test_the_same_answers_on_all_tables_that_satisfy_the_constraints(self):
        """Of point 3, (c)."""
        rng = random.Random(142)
        simplified = filled = empty = 0
        while simplified < 150 or filled < 80 or empty < 10:
            constraints = random_constraints(rng, rng.randrange(1, 5))
            query = random_table_query(rng)
            if not simplification_steps(constraints, query):
                continue
            result = self.applied(constraints, query)
            for tables in [random_tables(rng) for number in range(30)]:
                if all(is_slowly_satisfied(tables, constraint) for constraint in constraints):
                    expected = slow_table_answers(tables, [query])
                    self.assertEqual(slow_table_answers(tables, [] if result is None else [result]), expected, (constraints, query, tables))
                    simplified += 1
                    filled += expected != []
                    empty += result is None

    def test_new_lists_unchanged_arguments_and_names(self):
        constraints = KEY + FOREIGN
        query = ((("p", "d"),), (("u", ("d", "e")), ("u", ("d", "f"))))
        before = copy.deepcopy((constraints, query))
        first, second = simplification_steps(constraints, query), simplification_steps(constraints=constraints, query=query)
        self.assertEqual((first, second), ([("key", 0, 0, 1)],) * 2)
        self.assertEqual(len(set(aliases(first) + aliases(second) + aliases(constraints))), 3)
        self.assertEqual(apply_step(constraints=constraints, query=query, step=first[0]), apply_step(constraints, query, ("key", 0, 0, 1)))
        self.assertEqual((constraints, query), before)


def mapping(*items, head=("concept", "a", ("p", "x"))):
    return (items, head)


class Redundant(unittest.TestCase):
    def redundant(self, mappings, *expected):
        self.assertEqual(slow_redundant_mappings(mappings), list(expected), "the test is wrong")
        self.assertEqual(redundant_mappings(list(mappings)), list(expected))
        self.assertEqual(redundant_mappings(tuple(mappings)), list(expected))

    def test_none(self):
        self.redundant([])
        self.redundant([mapping(("t", ("x",)))])

    def test_equal_mappings(self):
        one = mapping(("t", ("x",)))
        self.redundant([one, one], (1, 0))
        self.redundant([one, one, one], (1, 0), (2, 0))
        self.redundant([one, mapping(("t", ("y",)), head=("concept", "a", ("p", "y")))], (1, 0))

    def test_because_of_a_more_general_one(self):
        general = mapping(("u", ("x", "y")))
        special = [mapping(("u", ("x", ONE))), mapping(("u", ("x", "x"))), mapping(("u", ("x", "y")), ("t", ("y",)))]
        for one in special:
            self.redundant([general, one], (1, 0))
            self.redundant([one, general], (0, 1))
        self.redundant(special + [general], (0, 3), (1, 3), (2, 3))

    def test_because_of_each_other(self):
        one = mapping(("u", ("x", "y")))
        other = mapping(("u", ("x", "y")), ("u", ("x", "z")))
        self.redundant([one, other], (1, 0))
        self.redundant([other, one], (1, 0))
        self.redundant([other, mapping(("t", ("x",))), one, other], (2, 0), (3, 0))

    def test_the_smallest_index(self):
        special = mapping(("v", ("x", ONE, TWO)))
        general = [mapping(("v", ("x", ONE, "y"))), mapping(("v", ("x", "y", TWO))), mapping(("v", ("x", "y", "z")))]
        self.redundant([special] + general, (0, 1), (1, 3), (2, 3))
        self.redundant(general + [special], (0, 2), (1, 2), (3, 0))
        self.redundant([general[1], special, general[0]], (1, 0))
        self.redundant([special, special, general[0]], (0, 2), (1, 0))

    def test_different_heads_templates_and_tables(self):
        heads = [("concept", "a", ("p", "x")), ("concept", "b", ("p", "x")), ("concept", "a", ("q", "x")), ("role", "a", ("p", "x"), ("p", "x")),
                 ("role", "a", ("p", "x"), ("p", "y")), ("role", "a", ("p", "y"), ("p", "x")), ("role", "b", ("p", "x"), ("p", "y")),
                 ("concept", "a", ("p", "y")), ("role", "a", ("p", "x"), ("q", "y")), ("role", "a", ("q", "x"), ("p", "y"))]
        for one, other in itertools.permutations(heads, 2):
            self.redundant([mapping(("u", ("x", "y")), head=one), mapping(("u", ("x", "y")), head=other)])
        self.redundant([mapping(("u", ("x", "y"))), mapping(("w", ("x", "y")))])
        self.redundant([mapping(("u", ("x", "y"))), mapping(("u", ("y", "x")))])
        self.redundant([mapping(("u", ("x", ONE))), mapping(("u", ("x", TWO)))])

    def test_variables_of_the_head_stay_variables(self):
        loop = mapping(("u", ("x", "x")), head=("role", "r", ("p", "x"), ("p", "x")))
        edge = mapping(("u", ("x", "y")), head=("role", "r", ("p", "x"), ("p", "y")))
        self.redundant([loop, edge], (0, 1))
        self.redundant([edge, loop], (1, 0))

    def test_random(self):
        rng = random.Random(143)
        pairs = several = 0
        while pairs < 300 or several < 40:
            mappings = [random_mapping(rng, ["a"], ["r"]) for number in range(rng.randrange(2, 9))]
            expected = slow_redundant_mappings(mappings)
            self.assertEqual(redundant_mappings(mappings), expected, mappings)
            pairs += len(expected)
            several += len(expected) > 1
            tables = random_tables(rng)
            for index, other in expected:
                self.assertLessEqual(set(mapped_facts([mappings[index]], tables)), set(mapped_facts([mappings[other]], tables)))

    def test_new_lists_unchanged_arguments_and_names(self):
        mappings = [mapping(("t", ("x",)))] * 2
        before = copy.deepcopy(mappings)
        first, second = redundant_mappings(mappings), redundant_mappings(mappings=mappings)
        self.assertEqual((first, second, mappings), ([(1, 0)], [(1, 0)], before))
        self.assertIsNot(first, second)


if __name__ == "__main__":
    unittest.main()
