import copy
import itertools
import random
import unittest

from factsandfar.errors import InvalidAnswer
from factsandfar.matching import holds_in_model
from factsandfar.models import is_model_table
from oracles import STRANGE, all_concepts, random_facts, random_query, roles_in, slow_answers, unrolled, work_for

T, U, V = ("p", "1"), ("p", "2"), ("q", "x1")
OUT, IN = ("out", "r"), ("in", "r")


class Matching(unittest.TestCase):
    def holds(self, model, query, answer, expected=True):
        self.assertIs(is_model_table(model), True)
        self.assertIs(holds_in_model(model, query, answer), expected, (model, query, answer))

    def asks(self, model, *patterns, expected=True):
        self.holds(model, ((), patterns), (), expected)

    def test_variables_at_named_nodes(self):
        model = ([("role", "r", T, U), ("concept", "a", U)], {}, [])
        query = (("x",), (("role", "r", "x", "y"), ("concept", "a", "y")))
        self.holds(model, query, (T,))
        self.holds(model, query, (U,), False)
        self.holds(model, query, (V,), False)
        self.asks(model, ("role", "r", "x", "y"))
        self.asks(model, ("role", "r", "x", "x"), expected=False)
        self.asks(model, ("role", "r", T, "x"), ("concept", "a", "x"))
        self.asks(model, ("role", "r", T, U))
        self.asks(model, ("role", "r", U, T), expected=False)

    def test_variables_at_unnamed_nodes(self):
        model = ([], {T: [0]}, [((OUT,), ("b",), (1,)), ((("in", "s"),), ("c",), ())])
        self.holds(model, (("x",), (("role", "r", "x", "y"), ("concept", "b", "y"))), (T,))
        self.holds(model, (("x",), (("role", "r", "x", "y"), ("role", "s", "z", "y"), ("concept", "c", "z"))), (T,))
        self.holds(model, (("y",), (("role", "r", "x", "y"),)), (T,), False)
        self.holds(model, (("z",), (("role", "s", "z", "y"),)), (T,), False)
        self.asks(model, ("role", "s", "z", "y"))
        self.asks(model, ("role", "s", "y", "z"), ("concept", "c", "z"), expected=False)
        self.asks(model, ("concept", "b", "x"), ("concept", "c", "x"), expected=False)
        self.asks(model, ("role", "r", T, "y"), ("concept", "b", "y"))
        self.asks(model, ("role", "r", U, "y"), expected=False)

    def test_several_edges_to_one_child(self):
        one = ([], {T: [0]}, [((OUT, ("in", "s"), ("out", "t")), (), ())])
        self.asks(one, ("role", "r", "x", "y"), ("role", "s", "y", "x"), ("role", "t", "x", "y"))
        two = ([], {T: [0, 1]}, [((OUT,), (), ()), ((("in", "s"),), (), ())])
        self.asks(two, ("role", "r", "x", "y"), ("role", "s", "y", "x"), expected=False)
        self.asks(two, ("role", "r", "x", "y"), ("role", "s", "z", "x"))
        both = ([], {T: [0]}, [((OUT, IN), (), ())])
        self.asks(both, ("role", "r", "x", "y"), ("role", "r", "y", "x"))
        self.asks(both, ("role", "r", "x", "x"), expected=False)

    def test_a_cyclic_node_kind_that_is_walked_more_than_once(self):
        forever = ([], {T: [0]}, [((OUT,), ("a",), (0,))])
        path = [("role", "r", one, other) for one, other in ("xy", "yz", "zw", "wv")]
        self.asks(forever, *path)
        self.holds(forever, (("x",), tuple(path)), (T,))
        self.holds(forever, (("y",), tuple(path)), (T,), False)
        self.asks(forever, *path[:3], ("concept", "a", "w"))
        self.asks(forever, *path[:3], ("role", "r", "w", "x"), expected=False)
        alternating = ([], {T: [0]}, [((OUT,), (), (1,)), ((("out", "s"),), ("a",), (0,))])
        self.asks(alternating, ("role", "r", "x", "y"), ("role", "s", "y", "z"), ("role", "r", "z", "w"), ("role", "s", "w", "v"))
        self.asks(alternating, ("role", "s", "x", "y"), ("role", "r", "y", "z"), ("concept", "a", "y"))
        self.asks(alternating, ("role", "r", "x", "y"), ("role", "r", "y", "z"), expected=False)

    def test_an_edge_back_to_the_parent(self):
        model = ([("concept", "a", T)], {T: [0]}, [((IN,), (), (1,)), ((OUT,), (), ())])
        self.asks(model, ("role", "r", "x", "y"), ("concept", "a", "y"))
        self.asks(model, ("role", "r", "x", "y"), ("role", "r", "x", "z"), ("concept", "a", "y"))
        self.holds(model, (("x",), (("role", "r", "y", "x"),)), (T,))
        self.holds(model, (("x",), (("role", "r", "x", "y"),)), (T,), False)
        self.asks(model, ("role", "r", "x", "y"), ("role", "r", "y", "z"), expected=False)
        self.asks(model, ("role", "r", "x", T))

    def test_two_variables_at_one_node(self):
        """A query may go down and up again, or come down twice."""
        model = ([], {T: [0]}, [((OUT,), ("b",), ())])
        self.asks(model, ("role", "r", "x", "y"), ("role", "r", "z", "y"), ("role", "r", "z", "w"), ("concept", "b", "w"))
        self.holds(model, (("x", "z"), (("role", "r", "x", "y"), ("role", "r", "z", "y"))), (T, T))
        twice = ([], {T: [0], U: [0]}, [((OUT,), ("b",), ())])
        self.holds(twice, (("x", "z"), (("role", "r", "x", "y"), ("role", "r", "z", "y"))), (T, U), False)
        self.holds(twice, (("x", "z"), (("role", "r", "x", "y"), ("role", "r", "z", "w"))), (T, U))

    def test_the_node_above_matters(self):
        """A node kind that is reached in several ways: the way from above that the query asks for may be any of them."""
        kinds = [((OUT,), ("a",), (2,)), ((OUT,), ("b",), (2,)), ((("out", "s"),), ("c",), ())]
        for indexes in ([0, 1], [1, 0]):
            model = ([], {T: indexes}, kinds)
            for name in ("a", "b"):
                self.asks(model, ("concept", "c", "x"), ("role", "s", "y", "x"), ("concept", name, "y"))
            self.asks(model, ("concept", "c", "x"), ("role", "s", "y", "x"), ("concept", "a", "y"), ("concept", "b", "y"), expected=False)
            self.asks(model, ("concept", "c", "x"), ("role", "s", "y", "x"), ("role", "r", "z", "y"), ("concept", "b", "y"))
        deep = ([], {T: [0]}, [((OUT,), (), (1,)), ((OUT,), (), (2, 3)), ((OUT,), ("a",), (3,)), ((OUT,), ("b",), ())])
        self.asks(deep, ("concept", "b", "x"), ("role", "r", "y", "x"), ("concept", "a", "y"))
        self.asks(deep, ("concept", "b", "x"), ("role", "r", "y", "x"), ("role", "r", "z", "y"), ("role", "r", "w", "z"))

    def test_an_index_that_occurs_twice(self):
        twice = ([], {T: [0, 0]}, [((OUT,), ("b",), (1, 1)), ((("out", "s"),), ("c",), ())])
        self.asks(twice, ("role", "r", "x", "y"), ("role", "r", "x", "z"), ("role", "s", "y", "v"), ("role", "s", "z", "w"))
        self.asks(twice, ("role", "r", "x", "y"), ("role", "r", "y", "z"), expected=False)

    def test_unconnected_parts(self):
        model = ([("concept", "a", U)], {T: [0]}, [((OUT,), ("b",), (1,)), ((("out", "s"),), ("c",), ())])
        self.asks(model, ("concept", "a", "x"), ("concept", "b", "y"), ("concept", "c", "z"))
        self.asks(model, ("concept", "a", "x"), ("concept", "b", "y"), ("concept", "d", "z"), expected=False)
        self.holds(model, (("x",), (("concept", "a", "x"), ("role", "s", "y", "z"))), (U,))
        self.holds(model, (("x",), (("concept", "a", "x"), ("role", "t", "y", "z"))), (U,), False)
        self.holds(model, (("x", "y"), (("concept", "a", "x"), ("role", "r", "y", "z"))), (U, T))
        self.holds(model, (("x", "y"), (("concept", "a", "x"), ("role", "r", "y", "z"))), (T, U), False)
        self.asks(model, ("concept", "a", U), ("role", "r", T, "x"), ("concept", "c", "y"))
        self.asks(model, ("role", "r", "x", "y"), ("role", "r", T, "z"), ("concept", "a", T), expected=False)

    def test_answer_terms(self):
        model = ([("role", "r", T, U), ("role", "r", T, T)], {}, [])
        edge = (("role", "r", "x", "y"),)
        self.holds(model, (("x", "y"), edge), (T, U))
        self.holds(model, (("y", "x"), edge), (T, U), False)
        self.holds(model, (("x", "x"), edge), (T, T))
        self.holds(model, (("x", "x"), edge), (T, U), False)
        self.holds(model, (("y", "y"), edge), (U, U))
        self.holds(model, ((U,), edge), (U,))
        self.holds(model, ((U,), edge), (T,), False)
        self.holds(model, ((V, "y"), edge), (V, U))
        self.holds(model, ((V, "y"), edge), (U, U), False)
        self.holds(model, ((V,), (("role", "s", "x", "y"),)), (V,), False)

    def test_individuals_that_occur_in_no_fact(self):
        empty = ([], {T: []}, [])
        for answer in ((T,), (U,)):
            self.holds(empty, (("x",), (("concept", "a", "x"),)), answer, False)
            self.holds(empty, (("x",), (("role", "r", "x", "y"),)), answer, False)
        child = ([], {T: [0]}, [((OUT,), (), ())])
        self.holds(child, (("x",), (("role", "r", "x", "y"),)), (T,))
        self.holds(child, (("x",), (("role", "r", "x", "y"),)), (U,), False)
        self.asks(([], {}, []), ("concept", "a", "x"), expected=False)
        self.asks(([], {}, [((OUT,), ("a",), (0,))]), ("concept", "a", "x"), expected=False)
        self.asks(([], {T: []}, [((OUT,), ("a",), (0,))]), ("role", "r", "x", "y"), expected=False)

    def test_named_neighbours_and_children(self):
        model = ([("role", "r", T, U), ("concept", "a", U)], {T: [0], U: [0]}, [((OUT,), ("b",), ())])
        self.asks(model, ("role", "r", "x", "y"), ("concept", "a", "y"), ("role", "r", "x", "z"), ("concept", "b", "z"))
        self.asks(model, ("role", "r", "x", "y"), ("role", "r", "y", "z"), ("concept", "b", "z"))
        self.asks(model, ("role", "r", "x", "y"), ("concept", "a", "y"), ("concept", "b", "y"), expected=False)

    def test_not_an_answer_tuple(self):
        model = ([("concept", "a", T)], {}, [])
        one = (("x",), (("concept", "a", "x"),))
        wrong = STRANGE + [(), (T, T), [T], T, (list(T),), ("x",), (0,), (("p", "A"),), (("P", "1"),), (("p",),), (("p", 1),), ((T,),), {0: T}]
        for answer in wrong:
            with self.assertRaises(InvalidAnswer) as caught:
                holds_in_model(model, one, answer)
            self.assertIsInstance(caught.exception, LookupError)
        for answer in [answer for answer in wrong if repr(answer) != "()"]:
            self.assertRaises(InvalidAnswer, holds_in_model, model, ((), (("concept", "a", "x"),)), answer)
        self.assertRaises(InvalidAnswer, holds_in_model, model, ((T,), (("concept", "a", "x"),)), ())
        self.assertRaises(InvalidAnswer, holds_in_model, model, (("x", "x"), (("concept", "a", "x"),)), (T,))
        self.assertRaises(InvalidAnswer, holds_in_model, ([], {}, []), one, ("x",))

    def random_model(self, rng):
        facts = random_facts(rng, ["a", "b"], ["r", "s"], [T, U], rng.randrange(4))
        directions = all_concepts([], ["r", "s"])
        count = rng.randrange(4)
        kinds = [(tuple(rng.sample(directions, rng.choice([1, 1, 2]))), tuple(rng.sample(["a", "b"], rng.choice([0, 1, 1, 2]))),
                  tuple(rng.choices(range(count), k=rng.choice([0, 1, 1, 2])))) for kind in range(count)]
        children = {individual: rng.choices(range(count), k=rng.randrange(3)) if count else [] for individual in rng.sample([T, U, V], 2)}
        return facts, children, kinds

    def test_against_the_unrolled_model(self):
        rng = random.Random(71)
        counts = {True: 0, False: 0}
        while min(counts.values()) < 1200:
            model = self.random_model(rng)
            query = random_query(rng, ["a", "b"], ["r", "s"], [T, U, V], answers=2)
            graph = unrolled(model, len(model[2]) + roles_in(query) + 1)
            if work_for(graph, query) > 20000:
                continue
            expected = slow_answers(graph, query)
            for answer in itertools.product([T, U, V, ("z", "9")], repeat=len(query[0])):
                found = holds_in_model(model, query, answer)
                self.assertIs(found, answer in expected, (model, query, answer))
                counts[found] += 1

    def test_wide_tables(self):
        kinds = [((OUT,), ("a",), tuple(range(16))) for kind in range(20)]
        model = ([], {T: list(range(4, 20))}, kinds)
        path = [("role", "r", one, other) for one, other in ("xy", "yz", "zw")]
        self.asks(model, *path, ("role", "r", "w", "v"))
        self.asks(model, *path, ("concept", "b", "w"), expected=False)

    def test_unchanged_arguments_and_names(self):
        model = ([("concept", "a", T)], {T: [0, 0]}, [((OUT,), ("b",), (0, 0))])
        query = (("x",), (("role", "r", "x", "y"), ("concept", "b", "y")))
        before = copy.deepcopy(model)
        self.assertIs(holds_in_model(model=model, query=query, answer=(T,)), True)
        self.assertEqual(model, before)
        reordered = (model[0], {U: [], T: [0, 0]}, model[2])
        self.assertIs(holds_in_model(reordered, query, (T,)), True)


if __name__ == "__main__":
    unittest.main()
