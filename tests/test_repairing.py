import copy
import itertools
import random
import unittest

from factsandfar.answering import certain_answers
from factsandfar.conflicts import find_conflict
from factsandfar.errors import LimitExceeded
from factsandfar.justifications import conflict_sets
from factsandfar.mappings import mapped_facts
from factsandfar.repairing import consistent_answers, minimal_hitting_sets, possible_answers, remove_rows, repairs
from oracles import (
    aliases, all_row_ids, is_consistent, only_rows, random_mapping, random_ontology, random_query, random_tables, slow_base_answers,
    slow_conflict_sets, slow_hitting_sets, slow_mapped_facts)

A, B = ("concept", "a"), ("concept", "b")
DISJOINT = [("disjoint", A, B)]
QUERY = (("x",), (("concept", "a", "x"),))


def concept_mapping(table, name):
    return (((table, ("e",)),), ("concept", name, ("p", "e")))


def pairs(count):
    """Data with so many conflict sets of two rows, no row in two of them."""
    tables = {"t": ("s", 1, [(str(number),) for number in range(count)]), "u": ("s", 1, [(str(number),) for number in range(count)])}
    return DISJOINT, [concept_mapping("t", "a"), concept_mapping("u", "b")], tables


class Limits(unittest.TestCase):
    def exceeded(self, function, *arguments):
        with self.assertRaises(LimitExceeded) as caught:
            function(*arguments)
        self.assertEqual(caught.exception.limit, 64)


class HittingSets(Limits):
    def hit(self, sets, *expected):
        self.assertEqual(slow_hitting_sets(sets), list(expected), "the test is wrong")
        self.assertEqual(minimal_hitting_sets(sets), list(expected))

    def test_edges(self):
        self.hit([], ())
        self.hit([()])
        self.hit([(), (0, 1)])
        self.hit([(0, 1), (2,), ()])
        self.hit([(0,)], (0,))
        self.hit([(0, 1)], (0,), (1,))
        self.hit([(0, 1), (0, 1)], (0,), (1,))

    def test_one_inside_another(self):
        self.hit([(0, 1), (0, 1, 2)], (0,), (1,))
        self.hit([(0, 1, 2), (0, 1)], (0,), (1,))
        self.hit([(0, 1, 2), (1,), (1, 2)], (1,))

    def test_several(self):
        self.hit([(0, 1), (1, 2)], (0, 2), (1,))
        self.hit([(0, 1), (2, 3)], (0, 2), (0, 3), (1, 2), (1, 3))
        self.hit([(0, 1), (0, 2), (1, 2)], (0, 1), (0, 2), (1, 2))
        self.hit([(0, 1, 2), (3,), (0, 3)], (0, 3), (1, 3), (2, 3))

    def test_other_items(self):
        self.hit([("a", "b"), ("b", "c")], ("a", "c"), ("b",))
        self.hit([(("t", 0), ("u", 10)), (("t", 2), ("u", 10))], (("t", 0), ("t", 2)), (("u", 10),))
        self.hit([(-5, 100, 1000)], (-5,), (100,), (1000,))

    def test_random(self):
        rng = random.Random(161)
        for turn in range(400):
            items = rng.randrange(1, 9)
            sets = [tuple(sorted(rng.sample(range(items), rng.randrange(0 if turn % 20 == 0 else 1, min(items, 4) + 1)))) for number in range(rng.randrange(8))]
            expected = slow_hitting_sets(sets)
            if len(expected) > 64:
                self.exceeded(minimal_hitting_sets, sets)
            else:
                self.assertEqual(minimal_hitting_sets(sets), expected, sets)

    def test_sixty_four(self):
        six = [(2 * number, 2 * number + 1) for number in range(6)]
        self.assertEqual(len(minimal_hitting_sets(six)), 64)
        self.assertEqual(minimal_hitting_sets(six), slow_hitting_sets(six))
        self.exceeded(minimal_hitting_sets, [tuple(range(5)), tuple(range(5, 18))])
        self.assertEqual(len(minimal_hitting_sets([tuple(range(64))])), 64)
        self.exceeded(minimal_hitting_sets, [tuple(range(65))])
        self.exceeded(minimal_hitting_sets, six + [(12, 13)])
        self.assertEqual(minimal_hitting_sets(six + [(12, 13), ()]), [])

    def test_few_of_many(self):
        """Few hitting sets, although the first tuples alone have very many."""
        graph = [(2 * number, 2 * number + 1) for number in range(12)]
        complete = graph + [pair for pair in itertools.combinations(range(24), 2) if pair not in graph]
        self.assertEqual(minimal_hitting_sets(complete), [tuple(item for item in range(24) if item != kept) for kept in reversed(range(24))])
        star = graph + [(2 * number,) for number in range(12)]
        self.assertEqual(minimal_hitting_sets(star), [tuple(range(0, 24, 2))])
        self.assertEqual(minimal_hitting_sets(graph + [()]), [])
        self.exceeded(minimal_hitting_sets, [(2 * number, 2 * number + 1) for number in range(24)])

    def test_new_lists_unchanged_arguments_and_names(self):
        sets = [(0, 1), (1, 2)]
        first, second = minimal_hitting_sets(sets), minimal_hitting_sets(sets=sets)
        self.assertEqual((first, second, sets), ([(0, 2), (1,)], [(0, 2), (1,)], [(0, 1), (1, 2)]))
        self.assertIsNot(first, second)
        self.assertIsNot(minimal_hitting_sets([]), minimal_hitting_sets([]))


class Repairs(Limits):
    def test_consistent_data(self):
        self.assertEqual(repairs([], [], {}), [()])
        self.assertEqual(repairs(*pairs(0)), [()])
        ontology, mappings, tables = pairs(3)
        self.assertEqual(repairs([], mappings, tables), [()])

    def test_each_way(self):
        self.assertEqual(repairs(*pairs(1)), [(("t", 0),), (("u", 0),)])
        self.assertEqual(len(repairs(*pairs(2))), 4)
        ontology, mappings, tables = pairs(2)
        self.assertEqual(repairs([("disjoint", B, B)], mappings, tables), [(("u", 0), ("u", 1))])

    def test_random(self):
        """Of point 3, (d)."""
        rng = random.Random(162)
        found = several = 0
        while found < 100 or several < 60:
            ontology = random_ontology(rng, ["a", "b"], ["r", "s"], positive=rng.randrange(3), negative=rng.randrange(1, 3))
            tables = {name: (source, count, rows[:3]) for name, (source, count, rows) in random_tables(rng).items()}
            mappings = [random_mapping(rng, ["a", "b"], ["r", "s"]) for number in range(rng.randrange(1, 5))]
            ids = all_row_ids(tables)
            if len(ids) > 6:
                continue
            sets = repairs(ontology, mappings, tables)
            self.assertEqual(sets, slow_hitting_sets(slow_conflict_sets(ontology, mappings, tables)))
            for rows in sets:
                kept = [row for row in ids if row not in rows]
                self.assertTrue(is_consistent(ontology, slow_mapped_facts(mappings, only_rows(tables, kept))))
                self.assertEqual(remove_rows(tables, list(rows)), only_rows(tables, kept))
                self.assertIsNone(find_conflict(ontology, mapped_facts(mappings, remove_rows(tables, rows))))
                for row in rows:
                    self.assertFalse(is_consistent(ontology, slow_mapped_facts(mappings, only_rows(tables, kept + [row]))))
            found += sets != [()]
            several += len(sets) > 1

    def test_limits(self):
        self.assertEqual(len(repairs(*pairs(6))), 64)
        self.assertEqual(len(conflict_sets(*pairs(7))), 7)
        for function in (consistent_answers, possible_answers):
            self.exceeded(repairs, *pairs(7))
            self.exceeded(function, *pairs(7), QUERY)
            self.assertIsInstance(function(*pairs(6), QUERY), list)
        tables = {"t": ("s", 1, [(str(number),) for number in range(12)]), "u": ("s", 1, [(str(number),) for number in range(6)])}
        mappings = [((("t", ("d",)), ("u", ("e",))), ("role", "r", ("p", "d"), ("q", "e")))]
        ontology = [("disjoint", ("out", "r"), ("out", "r"))]
        self.exceeded(repairs, ontology, mappings, tables)
        self.exceeded(consistent_answers, ontology, mappings, tables, QUERY)
        self.exceeded(possible_answers, ontology, mappings, tables, QUERY)

    def test_new_lists_unchanged_arguments_and_names(self):
        ontology, mappings, tables = pairs(2)
        before = copy.deepcopy((ontology, mappings, tables))
        first, second = repairs(ontology, mappings, tables), repairs(ontology=ontology, mappings=mappings, tables=tables)
        self.assertEqual(first, second)
        self.assertEqual(len(set(aliases(first) + aliases(second))), 2)
        self.assertEqual((ontology, mappings, tables), before)
        self.assertEqual(repairs(tuple(ontology), tuple(mappings), tables), first)


class RemoveRows(unittest.TestCase):
    tables = {"t": ("s", 1, [("a",), ("b",), ("c",), ("d",)]), "u": ("z", 2, [("a", "b"), ("b", "a")]), "v": ("z", 3, [])}

    def left(self, rows, t, u):
        expected = {"t": ("s", 1, [tuple(row) for row in t]), "u": ("z", 2, [tuple(row) for row in u]), "v": ("z", 3, [])}
        self.assertEqual(remove_rows(self.tables, rows), expected)
        self.assertEqual(remove_rows(self.tables, tuple(reversed(rows))), expected)

    def test_none(self):
        self.left([], ["a", "b", "c", "d"], ["ab", "ba"])
        self.assertEqual(remove_rows({}, []), {})

    def test_several_rows_of_one_table(self):
        self.left([("t", 0)], ["b", "c", "d"], ["ab", "ba"])
        self.left([("t", 0), ("t", 1)], ["c", "d"], ["ab", "ba"])
        self.left([("t", 2), ("t", 0), ("t", 3)], ["b"], ["ab", "ba"])
        self.left([("t", row) for row in range(4)], [], ["ab", "ba"])

    def test_several_tables(self):
        self.left([("u", 0), ("t", 3)], ["a", "b", "c"], ["ba"])
        self.left([("t", 1), ("u", 1), ("u", 0)], ["a", "c", "d"], [])

    def test_new_values_unchanged_arguments_and_names(self):
        before = copy.deepcopy(self.tables)
        rows = [("t", 0)]
        first, second = remove_rows(self.tables, rows), remove_rows(tables=self.tables, rows=rows)
        self.assertEqual(len(set(aliases(first) + aliases(second) + aliases(self.tables))), 12)
        first["t"][2].append(("z",))
        first["w"] = None
        self.assertEqual((self.tables, rows, second), (before, [("t", 0)], remove_rows(self.tables, rows)))


class Answers(unittest.TestCase):
    def test_after_every_and_after_some_repair(self):
        tables = {"t": ("s", 1, [("1",), ("2",)]), "u": ("s", 1, [("1",), ("3",)])}
        mappings = [concept_mapping("t", "a"), concept_mapping("u", "b")]
        self.assertEqual(consistent_answers(DISJOINT, mappings, tables, QUERY), [(("p", "2"),)])
        self.assertEqual(possible_answers(DISJOINT, mappings, tables, QUERY), [(("p", "1"),), (("p", "2"),)])
        either = DISJOINT + [("subclass", A, ("concept", "c")), ("subclass", B, ("concept", "c"))]
        query = (("x",), (("concept", "c", "x"),))
        self.assertEqual(consistent_answers(either, mappings, tables, query), [(("p", "1"),), (("p", "2"),), (("p", "3"),)])
        self.assertEqual(consistent_answers(either, mappings, tables, ((), QUERY[1])), [()])
        self.assertEqual(consistent_answers(DISJOINT, mappings, {"t": ("s", 1, [("1",)]), "u": ("s", 1, [("1",)])}, ((), QUERY[1])), [])
        self.assertEqual(possible_answers(DISJOINT, mappings, {"t": ("s", 1, [("1",)]), "u": ("s", 1, [("1",)])}, ((), QUERY[1])), [()])

    def test_consistent_data(self):
        tables = {"t": ("s", 1, [("2",), ("1",)])}
        for function in (consistent_answers, possible_answers):
            self.assertEqual(function([], [concept_mapping("t", "a")], tables, QUERY), [(("p", "1"),), (("p", "2"),)])
            self.assertEqual(function([], [], {}, QUERY), [])

    def test_random(self):
        """Of point 3, (d)."""
        rng = random.Random(163)
        inconsistent = different = filled = 0
        while inconsistent < 60 or different < 25 or filled < 25:
            ontology = random_ontology(rng, ["a", "b"], ["r"], positive=rng.randrange(3), negative=rng.randrange(1, 3))
            tables = {name: (source, count, rows[:3]) for name, (source, count, rows) in random_tables(rng).items()}
            mappings = [random_mapping(rng, ["a", "b"], ["r"]) for number in range(rng.randrange(1, 5))]
            query = random_query(rng, ["a", "b"], ["r"], [("p", "1"), ("p", "2")], most=2, answers=2)
            if len(all_row_ids(tables)) > 6:
                continue
            certain, possible = consistent_answers(ontology, mappings, tables, query), possible_answers(ontology, mappings, tables, query)
            sets = slow_hitting_sets(slow_conflict_sets(ontology, mappings, tables))
            kept = [only_rows(tables, [row for row in all_row_ids(tables) if row not in rows]) for rows in sets]
            lists = [slow_base_answers(ontology, mappings, one, query) for one in kept]
            self.assertEqual(certain, sorted(set(lists[0]).intersection(*lists)))
            self.assertEqual(possible, sorted(set().union(*lists)))
            self.assertEqual(lists, [certain_answers(ontology, mapped_facts(mappings, one), query) for one in kept])
            inconsistent += sets != [()]
            different += certain != possible
            filled += certain != [] and sets != [()]

    def test_new_lists_unchanged_arguments_and_names(self):
        ontology, mappings, tables = pairs(2)
        before = copy.deepcopy((ontology, mappings, tables))
        for function in (consistent_answers, possible_answers):
            first = function(ontology, mappings, tables, QUERY)
            second = function(ontology=ontology, mappings=mappings, tables=tables, query=QUERY)
            self.assertEqual(first, second)
            self.assertIsNot(first, second)
        self.assertEqual((ontology, mappings, tables), before)


if __name__ == "__main__":
    unittest.main()
