import copy
import unittest

from factsandfar.axioms import check_ontology, concepts_of, inverse, is_axiom, is_concept
from factsandfar.errors import InvalidConcept, InvalidOntology
from oracles import STRANGE, AlwaysEqual, NeverUsable, all_axioms, all_concepts, TAGS

WORDS = ["a", "z", "ab", "worksin", "abcdefgh", "concept", "out", "in", "none"]
NO_WORDS = [
    "", "abcdefghi", "A", "aB", "a1", "1", "a b", " a", "a ", "a_", "a-b", "a\n", "\n", ".", "\u00e9", "\u00df", "a\u0301",
    "\u0430", "\uff41", None, True, 1, 0, b"a", ["a"], ("a",), {"a": 1}, 1.5, AlwaysEqual(), NeverUsable(),
]


class Concepts(unittest.TestCase):
    def test_concepts(self):
        for word in WORDS:
            for tag in ("concept", "out", "in"):
                self.assertIs(is_concept((tag, word)), True)

    def test_wrong_words(self):
        for word in NO_WORDS:
            for tag in ("concept", "out", "in"):
                self.assertIs(is_concept((tag, word)), False)

    def test_wrong_tags_and_lengths(self):
        for candidate in [
            ("role", "a"), ("Out", "a"), ("out ", "a"), ("", "a"), (None, "a"), (b"out", "a"), (AlwaysEqual(), "a"),
            (NeverUsable(), "a"), ("inverse", "a"), ("out",), ("out", "r", "r"), ("concept", "a", ("p", "1")),
            ("concept",), (), ["out", "r"], [["out", "r"]], ("out", ["r"]), ("out", ("r",)), (("out",), "r"),
            "out", {"out": "r"}, {"out", "r"}, (True, "a"), ("concept", ("concept", "a")),
        ]:
            self.assertIs(is_concept(candidate), False)

    def test_any_value(self):
        for candidate in STRANGE:
            self.assertIs(is_concept(candidate), False)

    def test_arguments_by_name(self):
        self.assertIs(is_concept(candidate=("in", "r")), True)
        self.assertIs(is_axiom(candidate=("functional", ("in", "r"))), True)
        self.assertIsNone(check_ontology(candidate=[]))
        self.assertEqual(inverse(direction=("in", "r")), ("out", "r"))
        self.assertEqual(concepts_of(ontology=[]), [])


class Axioms(unittest.TestCase):
    def test_every_form(self):
        for axiom in all_axioms(["a", "b", "r"], ["r", "s", "abcdefgh"], TAGS):
            self.assertIs(is_axiom(axiom), True, axiom)

    def test_one_part_changed(self):
        b, c = ("concept", "a"), ("in", "r")
        for tag in ("subclass", "disjoint"):
            self.assertIs(is_axiom((tag, b, c)), True)
            for wrong in [None, True, "a", "out", ("a",), ("concept", "A"), ["concept", "a"], ("role", "r"), ()]:
                self.assertIs(is_axiom((tag, wrong, c)), False)
                self.assertIs(is_axiom((tag, b, wrong)), False)
        for tag in ("subrole", "subrole_inverse", "disjoint_roles", "disjoint_inverse"):
            for wrong in NO_WORDS + [("out", "r"), ("concept", "r")]:
                self.assertIs(is_axiom((tag, wrong, "s")), False)
                self.assertIs(is_axiom((tag, "r", wrong)), False)
            self.assertIs(is_axiom((tag, b, c)), False)
        for wrong in [("concept", "r"), "r", ["out", "r"], ("out", "R"), ("out", "r1"), ("out", ""), ("out",), None, True]:
            self.assertIs(is_axiom(("functional", wrong)), False)

    def test_wrong_tags_lengths_and_kinds(self):
        for axiom in all_axioms(["a"], ["r"], TAGS):
            parts = axiom[1:]
            for tag in ("sub_class", "Subclass", "", "concept", "out", "role", None, True, 0, b"subclass", ("subclass",)):
                self.assertIs(is_axiom((tag, *parts)), False)
            for wrong in [axiom[:-1], axiom[1:], axiom + (axiom[-1],), axiom + (None,), list(axiom), [axiom], (axiom,)]:
                self.assertIs(is_axiom(wrong), False)

    def test_any_value(self):
        for candidate in STRANGE:
            self.assertIs(is_axiom(candidate), False)


class Ontologies(unittest.TestCase):
    def wrong(self, candidate, index):
        with self.assertRaises(InvalidOntology) as caught:
            check_ontology(candidate)
        self.assertEqual(caught.exception.index, index)
        self.assertNotIsInstance(caught.exception.index, bool)

    def setUp(self):
        self.axioms = [axiom for axiom in all_axioms(["a", "b"], ["r", "s"], TAGS) if axiom[0] != "functional"]

    def test_lists_and_tuples_of_up_to_sixteen(self):
        for count in range(17):
            self.assertIsNone(check_ontology(self.axioms[:count]))
            self.assertIsNone(check_ontology(tuple(self.axioms[-count:] if count else ())))

    def test_other_kinds_and_seventeen_items(self):
        for candidate in [None, True, 0, "", "subclass", {}, {0: self.axioms[0]}, set(), frozenset(), object(),
                          AlwaysEqual(), NeverUsable(), range(2), iter([]), b""]:
            self.wrong(candidate, None)
        self.wrong(self.axioms[:17], None)
        self.wrong(tuple(self.axioms[:17]), None)
        self.wrong([None] * 17, None)
        self.wrong([self.axioms[0]] * 17, None)

    def test_the_first_item_that_is_no_axiom(self):
        for wrong in STRANGE:
            self.wrong([wrong], 0)
            self.wrong(self.axioms[:3] + [wrong] + self.axioms[4:6] + [None], 3)
        self.wrong(("subclass", ("concept", "a"), ("concept", "b")), 0)

    def test_the_first_item_that_equals_an_earlier_one(self):
        for count in range(1, 16):
            items = self.axioms[:count]
            for earlier in items:
                self.wrong(items + [earlier], count)
                self.wrong(tuple(items + [earlier, None])[:16], count)
        self.wrong([self.axioms[0], self.axioms[1], self.axioms[1], self.axioms[0]], 2)

    def test_functional_axioms(self):
        for tag in ("subrole", "subrole_inverse"):
            above = (tag, "r", "s")
            for direction in ("out", "in"):
                forbidden = ("functional", (direction, "s"))
                self.wrong([above, forbidden], 1)
                self.wrong([forbidden, above], 0)
                self.wrong((("functional", ("out", "r")), forbidden, self.axioms[0], above), 1)
                self.assertIsNone(check_ontology([above, ("functional", (direction, "r"))]))
                self.assertIsNone(check_ontology([forbidden, (tag, "s", "r")]))
                self.wrong([(tag, "s", "s"), forbidden], 1)
        for tag in ("disjoint_roles", "disjoint_inverse"):
            self.assertIsNone(check_ontology([(tag, "r", "s"), ("functional", ("out", "s"))]))
        self.assertIsNone(check_ontology([("subclass", ("concept", "a"), ("out", "s")), ("functional", ("out", "s"))]))
        self.assertIsNone(check_ontology([("functional", ("out", "s")), ("functional", ("in", "s"))]))

    def test_the_smallest_index_wins(self):
        forbidden = ("functional", ("out", "s"))
        self.wrong([forbidden, None, ("subrole", "r", "s")], 0)
        self.wrong([None, forbidden, ("subrole", "r", "s")], 0)
        self.wrong([self.axioms[0], self.axioms[0], forbidden, ("subrole", "r", "s")], 1)
        self.wrong([self.axioms[0], forbidden, self.axioms[0], ("subrole", "r", "s")], 1)
        # What is no axiom forbids nothing.
        self.wrong([forbidden, ["subrole", "r", "s"]], 1)
        self.wrong([forbidden, ("subrole", "R", "s")], 1)

    def test_the_argument_does_not_change(self):
        candidate = self.axioms[:4] + [["subrole", "r", "s"]]
        before = copy.deepcopy(candidate)
        self.wrong(candidate, 4)
        self.assertEqual(candidate, before)


class Inverse(unittest.TestCase):
    def test_both_directions(self):
        for word in WORDS:
            self.assertEqual(inverse(("out", word)), ("in", word))
            self.assertEqual(inverse(("in", word)), ("out", word))

    def test_every_other_value(self):
        for wrong in STRANGE + [("concept", word) for word in WORDS] + [("in", word) for word in NO_WORDS] + [
                ("out", "r", "r"), ("out",), ("Out", "r"), [("out", "r")], "in", ("subrole", "r", "s")]:
            with self.assertRaises(InvalidConcept):
                inverse(wrong)


class ConceptsOf(unittest.TestCase):
    def test_each_axiom(self):
        both = [("in", "r"), ("out", "r")]
        self.assertEqual(concepts_of([("subclass", ("concept", "z"), ("in", "r"))]), [("concept", "z")] + both)
        self.assertEqual(concepts_of([("disjoint", ("out", "r"), ("concept", "b"))]), [("concept", "b")] + both)
        self.assertEqual(concepts_of([("functional", ("in", "r"))]), both)
        self.assertEqual(concepts_of([("functional", ("out", "r"))]), both)
        for tag in ("subrole", "subrole_inverse", "disjoint_roles", "disjoint_inverse"):
            self.assertEqual(concepts_of([(tag, "s", "r")]), [("in", "r"), ("in", "s"), ("out", "r"), ("out", "s")])
            self.assertEqual(concepts_of(((tag, "r", "r"),)), both)

    def test_concept_names_and_role_names_are_separate(self):
        self.assertEqual(concepts_of([("subclass", ("concept", "r"), ("concept", "s"))]), [("concept", "r"), ("concept", "s")])
        self.assertEqual(concepts_of([("subclass", ("concept", "r"), ("out", "r"))]), [("concept", "r"), ("in", "r"), ("out", "r")])

    def test_sorted_distinct_and_new(self):
        ontology = [("subclass", ("out", "s"), ("concept", "b")), ("subclass", ("concept", "b"), ("concept", "a")), ("subrole", "s", "r")]
        expected = sorted(all_concepts(["a", "b"], ["r", "s"]))
        before = list(ontology)
        found = concepts_of(ontology)
        self.assertEqual(found, expected)
        found.clear()
        self.assertEqual(concepts_of(tuple(ontology)), expected)
        self.assertEqual(ontology, before)
        self.assertEqual(concepts_of([]), [])


if __name__ == "__main__":
    unittest.main()
