import copy
import random
import unittest

from factsandfar.models import is_model, is_model_table, violated_axioms
from oracles import STRANGE, TAGS, all_axioms, all_concepts, random_facts, random_ontology, unrolled, with_parts_changed

T, U, V = ("p", "1"), ("p", "2"), ("q", "x1")
A, B = ("concept", "a"), ("concept", "b")
OUT, IN = ("out", "r"), ("in", "r")


class Tables(unittest.TestCase):
    model = ([("concept", "a", T), ("role", "r", T, U)], {T: [0, 1, 1], V: []},
             [((OUT, IN, ("out", "s")), ("a", "b"), (1, 0)), ((IN,), (), ())])

    def test_accepted(self):
        for model in [([], {}, []), self.model, ([], {T: []}, []), ([("concept", "a", T)], {}, []),
                      ([], {}, [((OUT,), (), (0,))]), ([], {T: [0]}, [((OUT,), ("r",), (0, 0))])]:
            self.assertIs(is_model_table(model), True, model)
        self.assertIs(is_model_table(candidate=self.model), True)

    def test_limits(self):
        kind = ((OUT,), (), ())
        for count, expected in ((20, True), (21, False), (40, False)):
            self.assertIs(is_model_table(([], {}, [kind] * count)), expected)
            self.assertIs(is_model_table(([], {T: [count - 1]}, [kind] * count)), expected)
        for count, expected in ((16, True), (17, False), (30, False)):
            self.assertIs(is_model_table(([], {T: [0] * count}, [kind])), expected)
            self.assertIs(is_model_table(([], {T: [], U: [0] * count}, [kind])), expected)
            self.assertIs(is_model_table(([], {}, [((OUT,), (), (0,) * count)])), expected)
        many = [(tag, role) for role in "abcdefghijklmnopqrst" for tag in ("out", "in")]
        self.assertIs(is_model_table(([], {}, [(tuple(many), tuple("abcdefghijklmnopqrst"), ())])), True)
        facts = [("concept", "a", ("p", str(number))) for number in range(500)]
        self.assertIs(is_model_table((facts, {fact[2]: [] for fact in facts}, [])), True)

    def test_indexes(self):
        kind = ((OUT,), (), ())
        for wrong in (-1, 2, 99, True, False, 0.0, "0", None, (0,), [0]):
            self.assertIs(is_model_table(([], {T: [wrong]}, [kind, kind])), False)
            self.assertIs(is_model_table(([], {T: [0, wrong]}, [kind, kind])), False)
            self.assertIs(is_model_table(([], {}, [kind, ((OUT,), (), (wrong,))])), False)
        self.assertIs(is_model_table(([], {T: [0]}, [])), False)

    def test_facts(self):
        fact = ("concept", "a", T)
        for wrong in ([fact, fact], (fact,), (), [("concept", "a", 0)], [("concept", "a", "x")], [None], [list(fact)], None, {}, True,
                      [("concept", "A", T)], [("role", "r", T)]):
            self.assertIs(is_model_table((wrong, {}, [])), False)

    def test_children(self):
        kind = ((OUT,), (), ())
        for wrong in ({T: (0,)}, {T: None}, {T: 0}, {"p": [0]}, {("p",): [0]}, {0: [0]}, {("p", "A"): []}, {(1, "1"): []}, {True: []},
                      {T: {0: 0}}, [], [(T, [0])], None, (), {T}, {T: [[0]]}):
            self.assertIs(is_model_table(([], wrong, [kind])), False)

    def test_node_kinds(self):
        for wrong in (((), (), ()), ((OUT, OUT), (), ()), ((A,), (), ()), ((OUT,), ("a", "a"), ()), ((OUT,), ("A",), ()), ((OUT,), (A,), ()),
                      (OUT, (), ()), ([OUT], (), ()), ((OUT,), [], ()), ((OUT,), (), []), ((OUT,), ()), ((OUT,), (), (), ()), [(OUT,), (), ()],
                      ((OUT,), "", ()), ((OUT,), (), None), (("out",), (), ()), ((["out", "r"],), (), ()), ((OUT,), ("",), ()), None, ()):
            self.assertIs(is_model_table(([], {}, [wrong])), False, wrong)
            self.assertIs(is_model_table(([], {}, [((OUT,), (), ()), wrong])), False, wrong)
        kind = ((OUT,), (), ())
        for wrong in ((), (kind,), {0: kind}, None, True):
            self.assertIs(is_model_table(([], {}, wrong)), False)

    def test_any_value(self):
        for candidate in STRANGE + [list(self.model), self.model[:2], self.model + ([],)]:
            self.assertIs(is_model_table(candidate), False)
            self.assertIs(is_model([], [], candidate), False)
        for part in range(3):
            for strange in STRANGE:
                changed = self.model[:part] + (strange,) + self.model[part + 1:]
                self.assertIs(is_model_table(changed), (part, repr(strange)) in [(0, "[]"), (1, "{}")])

    def test_one_part_changed(self):
        accepted = 0
        for candidate in with_parts_changed(self.model):
            found = is_model_table(candidate)
            self.assertIs(found, self.is_table(candidate), candidate)
            accepted += found
        self.assertGreater(accepted, 10)

    def is_table(self, candidate):
        """Point 9, word by word."""
        if type(candidate) is not tuple or len(candidate) != 3:
            return False
        facts, children, kinds = candidate
        if type(facts) is not list or type(children) is not dict or type(kinds) is not list or len(kinds) > 20:
            return False
        right = all(self.is_fact(fact) for fact in facts) and len(set(map(repr, facts))) == len(facts)
        right = right and all(self.is_individual(key) for key in children)
        return (right and all(type(row) is list and self.are_indexes(row, kinds) for row in children.values())
                and all(self.is_kind(kind, kinds) for kind in kinds))

    def is_word(self, value, letters="abcdefghijklmnopqrstuvwxyz"):
        return type(value) is str and 0 < len(value) < 9 and set(value) <= set(letters)

    def is_individual(self, value):
        return (type(value) is tuple and len(value) == 2 and self.is_word(value[0])
                and self.is_word(value[1], "abcdefghijklmnopqrstuvwxyz0123456789"))

    def is_fact(self, value):
        if type(value) is not tuple or len(value) < 3 or type(value[0]) is not str or not self.is_word(value[1]):
            return False
        return (value[0], len(value)) in [("concept", 3), ("role", 4)] and all(self.is_individual(term) for term in value[2:])

    def are_indexes(self, row, kinds):
        return len(row) <= 16 and all(type(index) is int and 0 <= index < len(kinds) for index in row)

    def is_kind(self, kind, kinds):
        if type(kind) is not tuple or len(kind) != 3 or any(type(part) is not tuple for part in kind):
            return False
        directions, names, indexes = kind
        if not all(type(pair) is tuple and len(pair) == 2 and type(pair[0]) is str and pair[0] in ("out", "in")
                   and self.is_word(pair[1]) for pair in directions) or not all(self.is_word(name) for name in names):
            return False
        return 0 < len(directions) == len(set(directions)) and len(names) == len(set(names)) and self.are_indexes(indexes, kinds)


class Violations(unittest.TestCase):
    def violated(self, axiom, model, expected):
        self.assertIs(is_model_table(model), True)
        self.assertEqual(violated_axioms([axiom], model), [0] if expected else [], (axiom, model))

    def only(self, model, expected):
        """Exactly these axioms over a, b, r and s are violated."""
        axioms = all_axioms(["a", "b"], ["r", "s"], TAGS)
        found = [axioms[index] for index in violated_axioms(axioms, model)]
        self.assertEqual(sorted(found, key=repr), sorted(expected, key=repr))

    def test_no_nodes(self):
        self.only(([], {}, []), [])
        self.only(([], {T: []}, []), [])
        self.only(([], {T: []}, [((OUT, IN), ("a",), (0,))]), [])

    def test_one_member(self):
        concepts = [concept for concept in all_concepts(["a", "b"], ["r", "s"]) if concept != A]
        self.only(([("concept", "a", T)], {}, []), [("disjoint", A, A)] + [("subclass", A, other) for other in concepts])

    def test_one_edge(self):
        expected = [("subclass", one, other) for one in (OUT, IN) for other in all_concepts(["a", "b"], ["r", "s"]) if one != other]
        expected += [("disjoint", OUT, OUT), ("disjoint", IN, IN), ("disjoint_roles", "r", "r"), ("subrole", "r", "s"),
                     ("subrole_inverse", "r", "s"), ("subrole_inverse", "r", "r")]
        self.only(([("role", "r", T, U)], {}, []), expected)
        self.only(([], {T: [0]}, [((OUT,), (), ())]), expected)
        self.only(([], {T: [0]}, [((IN,), (), ())]), expected)

    def test_an_edge_from_an_individual_to_itself(self):
        expected = [("subclass", one, other) for one in (OUT, IN) for other in all_concepts(["a", "b"], ["s"])]
        expected += [("disjoint", one, other) for one in (OUT, IN) for other in (OUT, IN)]
        expected += [("disjoint_roles", "r", "r"), ("disjoint_inverse", "r", "r"), ("subrole", "r", "s"), ("subrole_inverse", "r", "s")]
        self.only(([("role", "r", T, T)], {}, []), expected)
        loops = [("role", "r", T, T), ("role", "s", T, T)]
        for axiom in [("disjoint_roles", "r", "s"), ("disjoint_inverse", "r", "s")]:
            self.violated(axiom, (loops, {}, []), True)
        for axiom in [("subrole", "r", "s"), ("subrole_inverse", "r", "s"), ("functional", OUT), ("functional", IN)]:
            self.violated(axiom, (loops, {}, []), False)
        for axiom in [("functional", OUT), ("functional", IN)]:
            self.violated(axiom, ([("role", "r", T, T), ("role", "r", T, U)], {}, []), axiom[1] == OUT)
            self.violated(axiom, ([("role", "r", T, T), ("role", "r", U, T)], {}, []), axiom[1] == IN)

    def test_functional_at_named_individuals(self):
        out, within = ("functional", OUT), ("functional", IN)
        kinds = [((OUT,), (), ()), ((IN,), (), ()), ((("out", "s"),), (), ())]
        self.violated(out, ([("role", "r", T, U), ("role", "r", T, V)], {}, []), True)
        self.violated(within, ([("role", "r", T, U), ("role", "r", T, V)], {}, []), False)
        self.violated(within, ([("role", "r", T, U), ("role", "r", V, U)], {}, []), True)
        self.violated(out, ([("role", "r", T, U)], {T: [0]}, kinds), True)
        self.violated(out, ([("role", "r", T, U)], {T: [1, 2], U: [0]}, kinds), False)
        self.violated(within, ([("role", "r", T, U)], {U: [1]}, kinds), True)
        self.violated(within, ([("role", "r", T, U)], {T: [1], U: [0]}, kinds), False)

    def test_an_index_that_occurs_twice(self):
        for direction in (OUT, IN):
            kinds = [((direction,), (), ()), ((("out", "s"),), (), (0, 0)), ((("out", "s"),), (), (0,))]
            for axiom in (("functional", OUT), ("functional", IN)):
                self.violated(axiom, ([], {T: [0]}, kinds), False)
                self.violated(axiom, ([], {T: [0, 0]}, kinds), axiom[1] == direction)
                self.violated(axiom, ([], {T: [1]}, kinds), axiom[1] == direction)
                self.violated(axiom, ([], {T: [2, 2]}, kinds), False)

    def test_an_edge_back_to_the_parent(self):
        """A child of the direction in r has an r edge to its parent, and so on for its own children."""
        kinds = [((IN,), (), (1,)), ((OUT,), (), ())]
        self.violated(("functional", OUT), ([], {T: [0]}, kinds), True)
        self.violated(("functional", IN), ([], {T: [0]}, kinds), False)
        kinds = [((OUT,), (), (1,)), ((IN,), (), ())]
        self.violated(("functional", OUT), ([], {T: [0]}, kinds), False)
        self.violated(("functional", IN), ([], {T: [0]}, kinds), True)
        self.violated(("subclass", A, OUT), ([], {T: [0]}, [((IN,), ("a",), ())]), False)
        self.violated(("subclass", A, OUT), ([], {T: [0]}, [((OUT,), ("a",), ())]), True)
        self.violated(("subclass", A, IN), ([], {T: [0]}, [((OUT,), ("a",), ())]), False)
        self.violated(("disjoint", OUT, ("out", "s")), ([], {T: [0]}, [((IN,), (), (1,)), ((("out", "s"),), (), ())]), True)

    def test_a_cyclic_node_kind(self):
        forever = ([("concept", "a", T)], {T: [0]}, [((OUT,), ("a",), (0,))])
        for axiom in [("subclass", A, OUT), ("subclass", IN, A), ("functional", OUT), ("functional", IN)]:
            self.violated(axiom, forever, False)
        for axiom in [("subclass", A, IN), ("disjoint", IN, OUT), ("subclass", OUT, B)]:
            self.violated(axiom, forever, True)
        alternating = ([("concept", "a", T)], {T: [0]}, [((OUT,), ("b",), (1,)), ((IN,), ("a",), (0,))])
        self.violated(("functional", IN), alternating, True)
        self.violated(("disjoint", A, B), alternating, False)
        self.violated(("subclass", B, IN), alternating, False)

    def test_several_directions_are_one_child(self):
        model = ([], {T: [0]}, [((OUT, ("out", "s"), ("in", "t")), (), ())])
        for axiom in [("subrole", "r", "s"), ("subrole", "s", "r"), ("subrole_inverse", "r", "t"), ("subrole_inverse", "t", "s"),
                      ("functional", OUT), ("disjoint_inverse", "r", "s"), ("disjoint_roles", "r", "t")]:
            self.violated(axiom, model, False)
        for axiom in [("disjoint_roles", "r", "s"), ("disjoint_inverse", "r", "t"), ("disjoint_inverse", "t", "s"), ("subrole", "r", "t"),
                      ("subrole_inverse", "r", "s")]:
            self.violated(axiom, model, True)
        two = ([], {T: [0, 1]}, [((OUT,), (), ()), ((("out", "s"),), (), ())])
        self.violated(("subrole", "r", "s"), two, True)
        self.violated(("disjoint_roles", "r", "s"), two, False)
        both = ([], {T: [0]}, [((OUT, IN), (), ())])
        for axiom in [("subrole_inverse", "r", "r"), ("functional", OUT), ("functional", IN)]:
            self.violated(axiom, both, False)
        self.violated(("disjoint_inverse", "r", "r"), both, True)

    def test_a_node_kind_that_is_not_reached(self):
        kinds = [((OUT,), (), ()), ((OUT, IN), ("a", "b"), (1, 2)), ((IN,), ("a",), (0,))]
        self.violated(("disjoint", A, B), ([], {T: [0]}, kinds), False)
        self.violated(("disjoint", A, B), ([], {T: [0, 1]}, kinds), True)
        self.violated(("disjoint", A, IN), ([], {T: [2]}, kinds), False)
        self.violated(("disjoint", A, OUT), ([], {T: [2]}, kinds), True)
        deep = [((OUT,), (), (1,)), ((OUT,), (), (2,)), ((OUT,), ("a",), ())]
        self.violated(("disjoint", A, A), ([], {T: [0]}, deep), True)
        self.violated(("disjoint", A, A), ([], {T: [0]}, deep[:1] + [((OUT,), (), ())] + deep[2:]), False)

    def random_model(self, rng):
        facts = random_facts(rng, ["a", "b"], ["r", "s"], [T, U], rng.randrange(5))
        directions = all_concepts([], ["r", "s"])
        count = rng.randrange(4)
        kinds = [(tuple(rng.sample(directions, rng.randrange(1, 4))), tuple(rng.sample(["a", "b"], rng.randrange(3))),
                  tuple(rng.choices(range(count), k=rng.randrange(3)))) for kind in range(count)]
        children = {individual: rng.choices(range(count), k=rng.randrange(3)) if count else [] for individual in rng.sample([T, U, V], 2)}
        return facts, children, kinds

    def test_against_the_unrolled_model(self):
        rng = random.Random(41)
        axioms = all_axioms(["a", "b"], ["r", "s"], TAGS)
        counts = {axiom[0]: [0, 0] for axiom in axioms}
        for turn in range(250):
            model = self.random_model(rng)
            graph = unrolled(model, 5)
            found = violated_axioms(axioms, model)
            for index, axiom in enumerate(axioms):
                self.assertEqual(index not in found, graph.holds(axiom, 5), (axiom, model))
                counts[axiom[0]][index in found] += 1
        for tag in counts:
            self.assertGreater(min(counts[tag]), 50, tag)

    def test_ascending_new_list_unchanged_arguments_and_names(self):
        ontology = [("disjoint", A, A), ("subclass", A, A), ("subclass", A, B), ("functional", OUT)]
        model = ([("concept", "a", T)], {T: [0, 0]}, [((OUT,), (), ())])
        before = copy.deepcopy((ontology, model))
        found = violated_axioms(ontology, model)
        self.assertEqual(found, [0, 2, 3])
        found.clear()
        self.assertEqual(violated_axioms(ontology=tuple(ontology), model=model), [0, 2, 3])
        self.assertEqual((ontology, model), before)

    def test_the_order_of_keys_has_no_effect(self):
        kinds = [((OUT,), ("a",), ()), ((IN,), ("b",), ())]
        axioms = all_axioms(["a", "b"], ["r"], TAGS)
        one = violated_axioms(axioms, ([], {T: [0], U: [1]}, kinds))
        self.assertEqual(one, violated_axioms(axioms, ([], {U: [1], T: [0]}, kinds)))


class IsModel(unittest.TestCase):
    ontology = [("subclass", A, OUT), ("subclass", IN, A), ("functional", OUT)]
    facts = [("concept", "a", T), ("concept", "b", U)]

    def test_all_facts_and_all_axioms(self):
        kinds = [((OUT,), ("a",), (0,))]
        right = ([("concept", "b", U), ("concept", "b", V), ("concept", "a", T)], {T: [0]}, kinds)
        self.assertIs(is_model(self.ontology, self.facts, right), True)
        self.assertIs(is_model(self.ontology, tuple(self.facts), right), True)
        self.assertIs(is_model(ontology=self.ontology, facts=self.facts, candidate=right), True)
        for wrong in [(right[0][1:], {T: [0]}, kinds), (right[0], {}, kinds), (right[0], {U: [0]}, kinds), (right[0], {T: [0, 0]}, kinds),
                      (right[0], {T: [0]}, [((OUT,), ("a",), ())]), (right[0], {T: [0]}, [((OUT,), (), (0,))]),
                      (right[0], {T: [1]}, kinds), (tuple(right[0]), {T: [0]}, kinds), list(right), None]:
            self.assertIs(is_model(self.ontology, self.facts, wrong), False, wrong)
        self.assertIs(is_model([], [], ([], {}, [])), True)
        self.assertIs(is_model([], self.facts, ([], {}, [])), False)
        self.assertIs(is_model(self.ontology, [], ([], {}, [])), True)

    def test_one_part_changed(self):
        right = (list(self.facts), {T: [0]}, [((OUT,), ("a",), (0,))])
        for candidate in with_parts_changed(right):
            found = is_model(self.ontology, self.facts, candidate)
            if not is_model_table(candidate):
                self.assertIs(found, False)
            else:
                graph = unrolled(candidate, 4)
                expected = set(self.facts) <= set(candidate[0]) and all(graph.holds(axiom, 4) for axiom in self.ontology)
                self.assertIs(found, expected, candidate)

    def test_accepts_exactly_the_models(self):
        """Of point 3, (a): an accepted table describes a model of the ontology and the facts."""
        rng = random.Random(42)
        counts = {True: 0, False: 0}
        for turn in range(3000):
            model = Violations.random_model(self, rng)
            ontology = random_ontology(rng, ["a", "b"], ["r", "s"], positive=rng.randrange(2), negative=rng.randrange(3))
            facts = rng.sample(model[0], rng.randrange(len(model[0]) + 1))
            if rng.randrange(4) == 0:
                facts = random_facts(rng, ["a"], ["r"], [T], 1)
            graph = unrolled(model, 5)
            expected = set(facts) <= set(model[0]) and all(graph.holds(axiom, 5) for axiom in ontology)
            self.assertIs(is_model(ontology, facts, model), expected)
            counts[expected] += 1
        self.assertGreater(min(counts.values()), 300)

    def test_arguments_do_not_change(self):
        model = (list(self.facts), {T: [0]}, [((OUT,), ("a",), (0,))])
        arguments = (list(self.ontology), list(self.facts), model)
        before = copy.deepcopy(arguments)
        is_model(*arguments)
        self.assertEqual(arguments, before)


if __name__ == "__main__":
    unittest.main()
