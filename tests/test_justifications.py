import copy
import itertools
import random
import unittest

from factsandfar.conflicts import find_conflict
from factsandfar.errors import InvalidAnswer, LimitExceeded
from factsandfar.justifications import answer_justifications, conflict_sets
from factsandfar.mappings import check_mappings, mapped_facts
from factsandfar.rewriting import rewrite
from factsandfar.tables import check_tables
from factsandfar.unfolding import unfold
from oracles import (
    STRANGE, aliases, all_row_ids, is_consistent, is_individual, known_individuals, only_rows, random_mapping, random_ontology,
    random_query, random_tables, slow_conflict_sets, slow_justifications, slow_mapped_facts)

ANN, BOB = ("p", "ann"), ("p", "bob")
A, B, C = ("concept", "a"), ("concept", "b"), ("concept", "c")
X = ("concept", "a", "x")


def concept_mapping(table, name, word="p"):
    return (((table, ("e",)),), ("concept", name, (word, "e")))


def role_mapping(table, role, one="p", other="p"):
    return (((table, ("d", "e")),), ("role", role, (one, "d"), (other, "e")))


def column(count, word=""):
    return [(f"{word}{number}",) for number in range(count)]


def product(one, other):
    """A table for each, and a mapping whose facts all need a row of each."""
    tables = {"t": ("s", 1, column(one)), "u": ("s", 1, column(other))}
    return tables, [((("t", ("d",)), ("u", ("e",))), ("role", "r", ("p", "d"), ("q", "e")))]


class Justifications(unittest.TestCase):
    def justified(self, ontology, mappings, tables, query, answer, *expected):
        self.assertEqual(slow_justifications(ontology, mappings, tables, query, answer), sorted(expected), "the test is wrong")
        self.assertEqual(answer_justifications(ontology, mappings, tables, query, answer), sorted(expected))

    def exceeded(self, limit, function, *arguments):
        with self.assertRaises(LimitExceeded) as caught:
            function(*arguments)
        self.assertEqual(caught.exception.limit, limit)

    def test_one_row(self):
        tables = {"t": ("s", 1, [("ann",), ("bob",)])}
        query = (("x",), (X,))
        self.justified([], [concept_mapping("t", "a")], tables, query, (ANN,), (("t", 0),))
        self.justified([], [concept_mapping("t", "a")], tables, query, (BOB,), (("t", 1),))

    def test_answers_that_are_none(self):
        tables = {"t": ("s", 1, [("ann",)]), "u": ("s", 1, [])}
        mappings = [concept_mapping("t", "a"), concept_mapping("u", "b")]
        for answer in (BOB, ("q", "ann"), ("emp", "1")):
            self.justified([], mappings, tables, (("x",), (X,)), (answer,))
        self.justified([], mappings, tables, (("x",), (("concept", "b", "x"),)), (ANN,))
        self.justified([], mappings, tables, ((), (("concept", "c", "x"),)), ())
        self.justified([], [], {}, (("x",), (X,)), (ANN,))
        self.justified([("subclass", B, A)], [], {}, (("x",), (X,)), (ANN,))
        self.justified([], mappings, tables, (("x", "x"), (X,)), (ANN, BOB))
        self.justified([], mappings, tables, ((ANN, "x"), (X,)), (BOB, ANN))

    def test_several_ways(self):
        tables = {"t": ("s", 1, [("ann",)]), "u": ("s", 2, [("ann", "x"), ("bob", "x"), ("ann", "y")])}
        ontology = [("subclass", ("out", "r"), A), ("subclass", B, A)]
        mappings = [concept_mapping("t", "b"), role_mapping("u", "r")]
        self.justified(ontology, mappings, tables, (("x",), (X,)), (ANN,), (("t", 0),), (("u", 0),), (("u", 2),))
        self.justified(ontology, mappings, tables, (("x",), (X,)), (BOB,), (("u", 1),))

    def test_two_rows_and_a_row_that_is_enough(self):
        tables = {"t": ("s", 1, [("ann",)]), "u": ("s", 1, [("ann",)])}
        pair = ((("t", ("e",)), ("u", ("e",))), ("concept", "a", ("p", "e")))
        query = (("x",), (X,))
        self.justified([], [pair], tables, query, (ANN,), (("t", 0), ("u", 0)))
        self.justified([], [pair, concept_mapping("u", "a")], tables, query, (ANN,), (("u", 0),))
        both = (("x",), (X, ("concept", "b", "x")))
        self.justified([], [concept_mapping("t", "a"), concept_mapping("u", "b")], tables, both, (ANN,), (("t", 0), ("u", 0)))
        self.justified([("subclass", B, A)], [concept_mapping("t", "a"), concept_mapping("u", "b")], tables, both, (ANN,), (("u", 0),))

    def test_one_row_for_two_items(self):
        tables = {"u": ("s", 2, [("ann", "bob"), ("bob", "ann"), ("bob", "bob")])}
        path = (("x",), (("role", "r", "x", "y"), ("role", "r", "y", "x")))
        self.justified([], [role_mapping("u", "r")], tables, path, (BOB,), (("u", 0), ("u", 1)), (("u", 2),))
        self.justified([], [role_mapping("u", "r")], tables, path, (ANN,), (("u", 0), ("u", 1)))

    def test_without_answer_terms(self):
        tables = {"t": ("s", 1, column(3))}
        self.justified([], [concept_mapping("t", "a")], tables, ((), (X,)), (), (("t", 0),), (("t", 1),), (("t", 2),))
        self.justified([], [concept_mapping("t", "a")], tables, ((), (X, ("concept", "a", "y"))), (), (("t", 0),), (("t", 1),), (("t", 2),))
        self.justified([("subclass", A, ("out", "r"))], [concept_mapping("t", "a")], tables, ((), (("role", "r", "x", "y"),)), (), *[(("t", row),) for row in range(3)])

    def test_named_individuals_in_the_query(self):
        tables = {"u": ("s", 2, [("ann", "bob"), ("bob", "bob")])}
        query = ((ANN, "x"), (("role", "r", "x", BOB),))
        self.justified([], [role_mapping("u", "r")], tables, query, (ANN, BOB), (("u", 1),))
        self.justified([], [role_mapping("u", "r")], tables, query, (ANN, ANN), (("u", 0),))

    def test_inconsistent_data(self):
        tables = {"t": ("s", 1, [("ann",)]), "u": ("s", 1, [("ann",)])}
        ontology = [("disjoint", A, B), ("subclass", B, C)]
        mappings = [concept_mapping("t", "a"), concept_mapping("u", "b")]
        self.justified(ontology, mappings, tables, (("x",), (("concept", "c", "x"),)), (ANN,), (("u", 0),))
        self.justified(ontology, mappings, tables, (("x",), (X, ("concept", "c", "x"))), (ANN,), (("t", 0), ("u", 0)))
        self.justified(ontology, mappings, tables, (("x",), (X,)), (BOB,))

    def test_all_sets_of_rows(self):
        rng = random.Random(151)
        found = several = shared = inconsistent = 0
        while found < 120 or several < 30 or shared < 12 or inconsistent < 20:
            ontology = random_ontology(rng, ["a", "b"], ["r"], positive=rng.randrange(4), negative=rng.randrange(2))
            tables = {name: (source, count, rows[:2]) for name, (source, count, rows) in random_tables(rng).items()}
            mappings = [random_mapping(rng, ["a", "b"], ["r"]) for number in range(rng.randrange(1, 5))]
            query = random_query(rng, ["a", "b"], ["r"], [("p", "1"), ("p", "2")], most=3, answers=2)
            facts = slow_mapped_facts(mappings, tables)
            answer = tuple(rng.choice(known_individuals(facts) + [("p", "1")]) for term in query[0])
            try:
                sets = answer_justifications(ontology, mappings, tables, query, answer)
            except LimitExceeded:
                continue
            self.assertEqual(sets, slow_justifications(ontology, mappings, tables, query, answer), (ontology, mappings, tables, query, answer))
            found += sets != []
            several += len(sets) > 1
            shared += len(sets) > 1 and len({row for rows in sets for row in rows}) < sum(len(rows) for rows in sets)
            inconsistent += sets != [] and not is_consistent(ontology, facts)

    def test_sixty_four(self):
        query = ((), (("role", "r", "x", "y"),))
        tables, mappings = product(8, 8)
        expected = [(("t", one), ("u", other)) for one in range(8) for other in range(8)]
        self.assertEqual(answer_justifications([], mappings, tables, query, ()), expected)
        more = {**tables, "v": ("s", 2, [("1", "1")])}
        self.exceeded(64, answer_justifications, [], mappings + [role_mapping("v", "r")], more, query, ())
        for one, other in ((8, 9), (12, 12), (6, 11)):
            tables, mappings = product(one, other)
            self.exceeded(64, answer_justifications, [], mappings, tables, query, ())

    def test_more_than_sixty_four_that_are_not_minimal(self):
        tables, mappings = product(12, 12)
        query = ((), (("role", "r", "x", "y"),))
        self.exceeded(64, answer_justifications, [], mappings, tables, query, ())
        alone = ((("t", ("d",)),), ("role", "r", ("p", "d"), ("p", "d")))
        self.assertEqual(answer_justifications([], mappings + [alone], tables, query, ()), [(("t", row),) for row in range(12)])
        last = ((("u", (("value", "0"),)), ("t", ("d",))), ("role", "r", ("p", "d"), ("p", "d")))
        self.exceeded(64, answer_justifications, [], mappings + [last], tables, query, ())

    def test_very_many_sets(self):
        tables = {name: ("s", 1, column(12)) for name in "tuvw"}
        mappings = [concept_mapping(name, name) for name in "tuvw"]
        query = ((), tuple(("concept", name, name) for name in "tuvw"))
        self.exceeded(64, answer_justifications, [], mappings, tables, query, ())
        same = ((), tuple(("concept", "t", name) for name in "tuvw"))
        self.assertEqual(len(answer_justifications([], mappings, tables, same, ())), 12)
        self.assertEqual(answer_justifications([], mappings, {**tables, "w": ("s", 1, [])}, query, ()), [])

    def test_limits_in_their_order(self):
        many = [("subclass", ("concept", name), A) for name in "bcdefg"]
        wide = (("x",), (X, ("concept", "a", "y"), ("concept", "a", "z"), ("concept", "a", "w")))
        tables, mappings = product(12, 12)
        self.exceeded(200, rewrite, many, wide)
        self.exceeded(200, answer_justifications, many, mappings, tables, wide, (ANN,))
        self.assertRaises(InvalidAnswer, answer_justifications, many, mappings, tables, wide, ())
        broad = ((), (X, ("concept", "a", "y"), ("concept", "a", "z"), ("concept", "a", "w")))
        plenty = [((("t", ("d",)), ("u", ("e",))), ("concept", "a", ("p", "d")))] * 8
        # More than sixty-four justifications, too: one for each row of one table and each of the other.
        self.exceeded(64, answer_justifications, [], plenty, tables, ((), (X,)), ())
        self.exceeded(400, unfold, plenty, [query for query, step in rewrite([], broad)])
        self.exceeded(400, answer_justifications, [], plenty, tables, broad, ())
        self.assertRaises(InvalidAnswer, answer_justifications, [], plenty, tables, broad, (ANN,))
        self.assertRaises(InvalidAnswer, answer_justifications, [], mappings, tables, ((), (("role", "r", "x", "y"),)), (ANN,))
        # The limit of the rewriting comes before that of the unfolding, although both are exceeded.
        self.exceeded(200, answer_justifications, many, plenty, tables, wide, (ANN,))

    def test_invalid_answers(self):
        tables = {"t": ("s", 1, [("ann",)])}
        for count in range(3):
            query = (("x",) * count, (X,))
            for candidate in STRANGE + [(ANN,), (ANN, BOB), [ANN], (("p", "A"),), (("p", 1),), ("x",), ((ANN,),), (("p", "1", "1"),), (True,)]:
                if type(candidate) is tuple and len(candidate) == count and all(is_individual(part) for part in candidate):
                    self.assertIsInstance(answer_justifications([], [concept_mapping("t", "a")], tables, query, candidate), list)
                else:
                    with self.assertRaises(InvalidAnswer) as caught:
                        answer_justifications([], [concept_mapping("t", "a")], tables, query, candidate)
                    self.assertIsInstance(caught.exception, LookupError)

    def test_new_lists_unchanged_arguments_and_names(self):
        tables = {"t": ("s", 1, [("ann",)])}
        arguments = {"ontology": [("subclass", B, A)], "mappings": [concept_mapping("t", "b")], "tables": tables, "query": (("x",), (X,)), "answer": (ANN,)}
        before = copy.deepcopy(arguments)
        first, second = answer_justifications(**arguments), answer_justifications(*arguments.values())
        self.assertEqual((first, second), ([(("t", 0),)],) * 2)
        self.assertEqual(len(set(aliases(first) + aliases(second))), 2)
        self.assertEqual(arguments, before)
        self.assertEqual(answer_justifications(tuple(arguments["ontology"]), tuple(arguments["mappings"]), *list(arguments.values())[2:]), first)


class ConflictSets(unittest.TestCase):
    def conflicting(self, ontology, mappings, tables, *expected):
        self.assertEqual(slow_conflict_sets(ontology, mappings, tables), sorted(expected), "the test is wrong")
        self.assertEqual(conflict_sets(ontology, mappings, tables), sorted(expected))

    def exceeded(self, *arguments):
        with self.assertRaises(LimitExceeded) as caught:
            conflict_sets(*arguments)
        self.assertEqual(caught.exception.limit, 64)

    def test_none(self):
        tables = {"t": ("s", 1, [("ann",)]), "u": ("s", 1, [("bob",)])}
        mappings = [concept_mapping("t", "a"), concept_mapping("u", "b")]
        self.conflicting([], mappings, tables)
        self.conflicting([("disjoint", A, B)], mappings, tables)
        self.conflicting([("disjoint", A, A)], [], {})
        self.conflicting([("disjoint", A, A)], mappings, {"t": ("s", 1, []), "u": ("s", 1, [])})

    def test_a_single_row(self):
        tables = {"t": ("s", 1, [("ann",), ("bob",)]), "u": ("s", 2, [("ann", "bob"), ("bob", "bob")])}
        self.conflicting([("disjoint", A, A)], [concept_mapping("t", "a")], tables, (("t", 0),), (("t", 1),))
        self.conflicting([("disjoint", A, B)], [concept_mapping("t", "a"), concept_mapping("t", "b")], tables, (("t", 0),), (("t", 1),))
        self.conflicting([("disjoint", ("out", "r"), ("in", "r"))], [role_mapping("u", "r")], tables, (("u", 1),))

    def test_two_rows(self):
        tables = {"t": ("s", 1, [("ann",), ("bob",)]), "u": ("s", 1, [("bob",), ("ann",)])}
        mappings = [concept_mapping("t", "a"), concept_mapping("u", "b")]
        self.conflicting([("disjoint", A, B)], mappings, tables, (("t", 0), ("u", 1)), (("t", 1), ("u", 0)))
        self.conflicting([("disjoint", B, A)], mappings, tables, (("t", 0), ("u", 1)), (("t", 1), ("u", 0)))

    def test_three_and_four_rows(self):
        tables = {"t": ("s", 1, [("1",)]), "u": ("s", 1, [("1",)]), "v": ("s", 1, [("1",)]), "w": ("s", 1, [("1",)])}
        both = ((("t", ("e",)), ("u", ("e",))), ("concept", "a", ("p", "e")))
        self.conflicting([("disjoint", A, B)], [both, concept_mapping("v", "b")], tables, (("t", 0), ("u", 0), ("v", 0)))
        pair = ((("w", ("e",)), ("v", ("e",))), ("concept", "b", ("p", "e")))
        self.conflicting([("disjoint", A, B)], [both, pair], tables, (("t", 0), ("u", 0), ("v", 0), ("w", 0)))
        self.conflicting([("disjoint", A, B)], [both, pair, concept_mapping("u", "b")], tables, (("t", 0), ("u", 0)))

    def test_through_axioms(self):
        tables = {"t": ("s", 1, [("1",)]), "u": ("s", 2, [("1", "2"), ("2", "1")])}
        mappings = [concept_mapping("t", "a"), role_mapping("u", "r")]
        inverse = ("subrole_inverse", "r", "s")
        self.conflicting([("subclass", A, B), inverse, ("disjoint", ("out", "s"), B)], mappings, tables, (("t", 0), ("u", 1)))
        self.conflicting([inverse, ("disjoint_roles", "r", "s")], mappings, tables, (("u", 0), ("u", 1)))
        self.conflicting([inverse, ("disjoint_inverse", "r", "s")], mappings, tables, (("u", 0),), (("u", 1),))
        self.conflicting([("disjoint_inverse", "r", "r")], mappings, tables, (("u", 0), ("u", 1)))

    def test_through_unnamed_individuals(self):
        tables = {"t": ("s", 1, [("1",)]), "u": ("s", 2, [("1", "2")])}
        mappings = [concept_mapping("t", "a"), role_mapping("u", "r")]
        ontology = [("subclass", A, ("out", "s")), ("subclass", ("in", "s"), ("in", "q")), ("disjoint", ("in", "s"), ("in", "q"))]
        self.conflicting(ontology, mappings, tables, (("t", 0),))
        deeper = ontology + [("subclass", ("in", "r"), A)]
        self.conflicting(deeper, mappings, tables, (("t", 0),), (("u", 0),))
        self.conflicting([("subclass", ("in", "r"), ("out", "s")), ("subrole", "s", "q"), ("disjoint_roles", "q", "s")], mappings, tables, (("u", 0),))

    def test_functional_roles(self):
        rows = [("1", "2"), ("1", "3"), ("2", "3"), ("1", "1")]
        tables = {"u": ("s", 2, rows)}
        self.conflicting([("functional", ("out", "r"))], [role_mapping("u", "r")], tables, (("u", 0), ("u", 1)), (("u", 0), ("u", 3)), (("u", 1), ("u", 3)))
        self.conflicting([("functional", ("in", "r"))], [role_mapping("u", "r")], tables, (("u", 1), ("u", 2)))
        self.conflicting([("functional", ("out", "s"))], [role_mapping("u", "r")], tables)
        two = [role_mapping("u", "r"), role_mapping("u", "r", "p", "q")]
        self.conflicting([("functional", ("out", "r"))], two, tables, *[(("u", row),) for row in range(4)])

    def test_one_fact_from_several_rows(self):
        tables = {"t": ("s", 1, [("1",)]), "u": ("s", 2, [("1", "2"), ("1", "3")]), "v": ("s", 1, [("1",)])}
        mappings = [concept_mapping("t", "a"), ((("u", ("d", "e")),), ("concept", "b", ("p", "d"))), concept_mapping("v", "b")]
        self.conflicting([("disjoint", A, B)], mappings, tables, (("t", 0), ("u", 0)), (("t", 0), ("u", 1)), (("t", 0), ("v", 0)))

    def test_all_sets_of_rows(self):
        rng = random.Random(152)
        found = several = single = more = none = 0
        while found < 150 or several < 60 or single < 30 or more < 5 or none < 60:
            ontology = random_ontology(rng, ["a", "b"], ["r", "s"], positive=rng.randrange(4), negative=rng.randrange(1, 3))
            tables = {name: (source, count, rows[:3]) for name, (source, count, rows) in random_tables(rng).items()}
            if len(all_row_ids(tables)) > 7:
                continue
            mappings = [random_mapping(rng, ["a", "b"], ["r", "s"]) for number in range(rng.randrange(1, 6))]
            sets = conflict_sets(ontology, mappings, tables)
            self.assertEqual(sets, slow_conflict_sets(ontology, mappings, tables), (ontology, mappings, tables))
            found += sets != []
            several += len(sets) > 1
            single += any(len(rows) == 1 for rows in sets)
            more += any(len(rows) > 2 for rows in sets)
            none += sets == []

    def test_many_rows(self):
        """Each set has a conflict, and none without one of its rows; without the rows of all sets there is none."""
        rng = random.Random(153)
        found = 0
        while found < 15:
            values = [str(number) for number in range(1, 7)]
            pairs = list(itertools.product(values, repeat=2))
            tables = {"t": ("s", 1, [(value,) for value in rng.sample(values, 4)]), "u": ("s", 2, rng.sample(pairs, 8)), "v": ("s", 2, rng.sample(pairs, 8))}
            mappings = [concept_mapping("t", "a"), role_mapping("u", "r"), role_mapping("v", "s"), ((("u", ("d", "e")), ("v", ("e", "f"))), ("role", "q", ("p", "d"), ("p", "f")))]
            ontology = random_ontology(rng, ["a", "b"], ["r", "s", "q"], positive=3, negative=3)
            self.assertIsNone(check_tables(tables))
            self.assertIsNone(check_mappings(tables, mappings))

            def is_conflicting(ids):
                return find_conflict(ontology, mapped_facts(mappings, only_rows(tables, ids))) is not None
            try:
                sets = conflict_sets(ontology, mappings, tables)
            except LimitExceeded:
                continue
            self.assertEqual(len(set(sets)), len(sets))
            for rows in sets:
                self.assertTrue(is_conflicting(rows))
                for row in rows:
                    self.assertFalse(is_conflicting([other for other in rows if other != row]))
            touched = {row for rows in sets for row in rows}
            self.assertFalse(is_conflicting([row for row in all_row_ids(tables) if row not in touched]))
            found += len(sets) > 3

    def test_sixty_four(self):
        ontology = [("disjoint", ("out", "r"), ("out", "r"))]
        tables, mappings = product(8, 8)
        expected = [(("t", one), ("u", other)) for one in range(8) for other in range(8)]
        self.assertEqual(conflict_sets(ontology, mappings, tables), expected)
        more = {**tables, "v": ("s", 2, [("1", "1")])}
        self.exceeded(ontology, mappings + [role_mapping("v", "r")], more)
        tables, mappings = product(12, 12)
        self.exceeded(ontology, mappings, tables)
        alone = ((("t", ("d",)),), ("role", "r", ("p", "d"), ("p", "d")))
        self.assertEqual(conflict_sets(ontology, mappings + [alone], tables), [(("t", row),) for row in range(12)])

    def test_it_does_not_use_rewriting(self):
        """Axioms for which rewriting what is disjoint would exceed two hundred queries."""
        ontology = [("subclass", ("concept", name), A) for name in "bcdefgh"] + [("subrole", role, "r") for role in "stuvwx"]
        ontology += [("disjoint", A, ("in", "r")), ("disjoint_inverse", "r", "r"), ("disjoint", ("out", "s"), ("out", "t"))]
        tables = {"t": ("s", 1, [("1",)]), "u": ("s", 2, [("2", "1")])}
        self.assertEqual(conflict_sets(ontology, [concept_mapping("t", "h"), role_mapping("u", "x")], tables), [(("t", 0), ("u", 0))])

    def test_new_lists_unchanged_arguments_and_names(self):
        arguments = {"ontology": [("disjoint", A, A)], "mappings": [concept_mapping("t", "a")], "tables": {"t": ("s", 1, [("ann",)])}}
        before = copy.deepcopy(arguments)
        first, second = conflict_sets(**arguments), conflict_sets(*arguments.values())
        self.assertEqual((first, second), ([(("t", 0),)],) * 2)
        self.assertEqual(len(set(aliases(first) + aliases(second))), 2)
        self.assertEqual(arguments, before)
        reordered = {"v": ("s", 1, [("ann",)]), "t": ("s", 1, [("ann",)])}
        self.assertEqual(conflict_sets([("disjoint", A, A)], [concept_mapping("v", "a"), concept_mapping("t", "a")], reordered), [(("t", 0),), (("v", 0),)])


if __name__ == "__main__":
    unittest.main()
