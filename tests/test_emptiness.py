import copy
import random
import unittest

from factsandfar.emptiness import find_emptiness_certificate, is_emptiness_certificate
from factsandfar.errors import InvalidConcept
from oracles import STRANGE, all_concepts, is_consistent, random_ontology, with_parts_changed

A, B, C = ("concept", "a"), ("concept", "b"), ("concept", "c")
OUT, IN = ("out", "r"), ("in", "r")


def successors(count):
    """An ontology in which the certificate of its first concept needs so many successors."""
    names = "abcdefghijklmnopqrst"
    axioms = [("subclass", ("in", one), ("out", other)) for one, other in zip(names, names[1:count])]
    return axioms + [("disjoint", ("in", names[count - 1]), ("in", names[count - 1]))]


def certificate_of(count):
    names = "abcdefghijklmnopqrst"
    certificate = ("disjoint", count - 1, [], [])
    for at in reversed(range(count)):
        certificate = ("successor", [] if at == 0 else [at - 1], ("out", names[at]), certificate)
    return certificate


class Disjoint(unittest.TestCase):
    ontology = [("disjoint", A, B), ("subclass", C, A), ("subclass", C, B), ("disjoint", C, C), ("disjoint_roles", "a", "b")]

    def test_accepted(self):
        self.assertIs(is_emptiness_certificate(self.ontology, C, ("disjoint", 0, [1], [2])), True)
        self.assertIs(is_emptiness_certificate(self.ontology, C, ("disjoint", 3, [], [])), True)
        self.assertIs(is_emptiness_certificate([("disjoint", B, A), ("subclass", A, B)], A, ("disjoint", 0, [1], [])), True)

    def test_one_part_changed(self):
        right = ("disjoint", 0, [1], [2])
        for wrong in [("disjoint", 0, [2], [1]), ("disjoint", 0, [1], [1]), ("disjoint", 0, [], [2]), ("disjoint", 0, [1], []),
                      ("disjoint", 3, [1], [2]), ("disjoint", 1, [1], [2]), ("disjoint", 4, [1], [2]), ("disjoint", 5, [1], [2]),
                      ("disjoint", -5, [1], [2]), ("disjoint", False, [1], [2]), ("disjoint", 0, [True], [2]),
                      ("disjoint", 0, (1,), [2]), ("disjoint", 0, [1], (2,)), ("disjoint", 0, [1]), ("roles", 0, [1], [2]),
                      ("disjoint", 0, [1], [2], []), ["disjoint", 0, [1], [2]], ("disjoint", None, [1], [2])]:
            self.assertIs(is_emptiness_certificate(self.ontology, C, wrong), False, wrong)
        for concept in (A, B, ("concept", "d"), ("out", "c"), ("in", "c")):
            self.assertIs(is_emptiness_certificate(self.ontology, concept, right), False)
        self.assertIs(is_emptiness_certificate(self.ontology[:2], C, right), False)

    def test_the_axiom_is_a_disjointness_of_concepts(self):
        ontology = [("subclass", C, A), ("disjoint_roles", "c", "c"), ("functional", ("out", "c"))]
        self.assertIs(is_emptiness_certificate(ontology, C, ("disjoint", 0, [], [0])), False)
        self.assertIs(is_emptiness_certificate(ontology, ("out", "c"), ("disjoint", 1, [], [])), False)
        self.assertIs(is_emptiness_certificate(ontology, ("out", "c"), ("disjoint", 2, [], [])), False)

    def test_any_value(self):
        right = ("disjoint", 0, [1], [2])
        for candidate in STRANGE:
            self.assertIs(is_emptiness_certificate(self.ontology, C, candidate), False)
        for candidate in with_parts_changed(right):
            self.assertIs(is_emptiness_certificate(self.ontology, C, candidate), False)

    def test_chains_of_forty_and_forty_one(self):
        ontology = [("disjoint", A, A), ("subclass", A, A)]
        self.assertIs(is_emptiness_certificate(ontology, A, ("disjoint", 0, [1] * 40, [1] * 40)), True)
        self.assertIs(is_emptiness_certificate(ontology, A, ("disjoint", 0, [1] * 41, [])), False)
        self.assertIs(is_emptiness_certificate(ontology, A, ("disjoint", 0, [], [1] * 41)), False)


class Roles(unittest.TestCase):
    ontology = [("subclass", A, ("out", "q")), ("subrole", "q", "r"), ("subrole", "q", "s"), ("subrole_inverse", "q", "t"),
                ("disjoint_roles", "r", "s"), ("disjoint_inverse", "r", "t"), ("disjoint_inverse", "t", "r"),
                ("subclass", ("out", "q"), ("out", "s")), ("disjoint", ("out", "q"), ("out", "v"))]
    out = ("out", "q")

    def test_accepted(self):
        for concept, chain, direction in ((A, [0], ("out", "q")), (("out", "q"), [], ("out", "q")), (("in", "q"), [], ("in", "q"))):
            for index, one, other in ((4, [1], [2]), (5, [1], [3]), (6, [3], [1])):
                certificate = ("roles", index, chain, direction, one, other)
                self.assertIs(is_emptiness_certificate(self.ontology, concept, certificate), True, certificate)

    def test_equal_roles(self):
        ontology = [("disjoint_roles", "r", "r"), ("subclass", A, IN), ("disjoint_inverse", "s", "s"), ("subrole_inverse", "s", "s")]
        self.assertIs(is_emptiness_certificate(ontology, A, ("roles", 0, [1], IN, [], [])), True)
        for direction in (("out", "s"), ("in", "s")):
            self.assertIs(is_emptiness_certificate(ontology, direction, ("roles", 2, [], direction, [3], [])), True)
            self.assertIs(is_emptiness_certificate(ontology, direction, ("roles", 2, [], direction, [], [3])), True)
            self.assertIs(is_emptiness_certificate(ontology, direction, ("roles", 2, [], direction, [], [])), False)
            self.assertIs(is_emptiness_certificate(ontology, direction, ("roles", 2, [], direction, [3], [3])), False)
            self.assertIsNotNone(find_emptiness_certificate(ontology, direction))
        self.assertIsNone(find_emptiness_certificate(ontology[:3], ("out", "s")))

    def test_one_part_changed(self):
        for wrong in [("roles", 4, [0], self.out, [2], [1]), ("roles", 4, [0], self.out, [1], [7]),
                      ("roles", 4, [0], self.out, [1], [3]), ("roles", 5, [0], self.out, [1], [2]),
                      ("roles", 6, [0], self.out, [1], [3]), ("roles", 4, [0], ("in", "q"), [1], [2]),
                      ("roles", 4, [], self.out, [1], [2]), ("roles", 8, [0], self.out, [1], [2]),
                      ("roles", 1, [0], self.out, [1], [2]), ("roles", 9, [0], self.out, [1], [2]),
                      ("roles", -5, [0], self.out, [1], [2]), ("roles", 4, [0], A, [1], [2]),
                      ("roles", 4, [False], self.out, [1], [2]), ("roles", 4, [0], self.out, [True], [2]),
                      ("roles", 4, (0,), self.out, [1], [2]), ("roles", 4, [0], self.out, (1,), [2]),
                      ("roles", 4, [0], self.out, [1], (2,)), ("roles", 4, [0], ["out", "q"], [1], [2]),
                      ("disjoint", 4, [0], self.out, [1], [2]), ("roles", 4, [0], self.out, [1]),
                      ("roles", 4, [0], self.out, [1], [2], []), ["roles", 4, [0], self.out, [1], [2]],
                      ("roles", True, [0], self.out, [1], [2]), ("roles", 4, [], A, [0, 1], [0, 2])]:
            self.assertIs(is_emptiness_certificate(self.ontology, A, wrong), False, wrong)

    def test_only_role_steps_after_the_direction(self):
        ontology = [("subclass", OUT, ("out", "s")), ("disjoint_roles", "r", "s")]
        self.assertIs(is_emptiness_certificate(ontology, OUT, ("roles", 1, [], OUT, [], [0])), False)
        self.assertIsNone(find_emptiness_certificate(ontology, OUT))
        self.assertIsNone(find_emptiness_certificate(ontology, ("out", "s")))
        ontology[1] = ("disjoint_roles", "s", "r")
        self.assertIs(is_emptiness_certificate(ontology, OUT, ("roles", 1, [], OUT, [0], [])), False)
        self.assertIsNone(find_emptiness_certificate(ontology, OUT))

    def test_true_is_not_the_index_one(self):
        ontology = [("subrole", "r", "s"), ("disjoint_roles", "r", "s")]
        self.assertIs(is_emptiness_certificate(ontology, OUT, ("roles", 1, [], OUT, [], [0])), True)
        self.assertIs(is_emptiness_certificate(ontology, OUT, ("roles", True, [], OUT, [], [0])), False)
        self.assertIs(is_emptiness_certificate(ontology, OUT, ("roles", 1, [], OUT, [], [False])), False)

    def test_any_value(self):
        right = ("roles", 4, [0], self.out, [1], [2])
        for candidate in with_parts_changed(right):
            self.assertIs(is_emptiness_certificate(self.ontology, A, candidate), False, candidate)


class Successors(unittest.TestCase):
    ontology = [("subclass", A, OUT), ("subclass", IN, B), ("disjoint", B, B)]
    inner = ("disjoint", 2, [1], [1])

    def test_accepted(self):
        self.assertIs(is_emptiness_certificate(self.ontology, IN, self.inner), True)
        self.assertIs(is_emptiness_certificate(self.ontology, OUT, ("successor", [], OUT, self.inner)), True)
        self.assertIs(is_emptiness_certificate(self.ontology, A, ("successor", [0], OUT, self.inner)), True)
        back_and_forth = ("successor", [], OUT, ("successor", [], IN, ("successor", [], OUT, self.inner)))
        self.assertIs(is_emptiness_certificate(self.ontology, OUT, back_and_forth), True)

    def test_one_part_changed(self):
        for wrong in [("successor", [], OUT, self.inner), ("successor", [0], IN, self.inner), ("successor", [0], A, self.inner),
                      ("successor", [0], OUT, ("disjoint", 2, [], [])), ("successor", [0], OUT, ("disjoint", 2, [1], [])),
                      ("successor", [False], OUT, self.inner), ("successor", (0,), OUT, self.inner),
                      ("successor", [0], OUT), ("successor", [0], OUT, self.inner, []), ["successor", [0], OUT, self.inner],
                      ("successor", [0], OUT, list(self.inner)), ("successor", [0], OUT, None), ("roles", [0], OUT, self.inner),
                      ("successor", [0], OUT, ("successor", [], IN, self.inner)), self.inner]:
            self.assertIs(is_emptiness_certificate(self.ontology, A, wrong), False, wrong)

    def test_any_value(self):
        for candidate in with_parts_changed(("successor", [0], OUT, self.inner)):
            self.assertIs(is_emptiness_certificate(self.ontology, A, candidate), False, candidate)

    def test_sixteen_one_inside_the_other(self):
        for count in range(1, 17):
            ontology = successors(count)
            self.assertIs(is_emptiness_certificate(ontology, ("out", "a"), certificate_of(count)), True)
            self.assertIs(is_emptiness_certificate(ontology, ("out", "a"), find_emptiness_certificate(ontology, ("out", "a"))), True)
        self.assertEqual(len(successors(16)), 16)
        self.assertIs(is_emptiness_certificate(successors(17), ("out", "a"), certificate_of(17)), False)
        self.assertIsNone(find_emptiness_certificate(successors(17), ("out", "a")))
        certificate = self.inner
        for count in range(1, 19):
            direction = OUT if count % 2 else IN
            certificate = ("successor", [], direction, certificate)
            self.assertIs(is_emptiness_certificate(self.ontology, direction, certificate), count <= 16)


class Found(unittest.TestCase):
    def test_accepted_for_empty_concepts_and_none_for_others(self):
        rng = random.Random(11)
        concepts = all_concepts(["a", "b"], ["r", "s"])
        counts = {True: 0, False: 0}
        kinds = set()
        for turn in range(120):
            ontology = random_ontology(rng, ["a", "b"], ["r", "s"], positive=rng.randrange(1, 6), negative=rng.randrange(1, 4))
            for concept in concepts:
                tag, name = concept
                fact = {"concept": ("concept", name, 0), "out": ("role", name, 0, 1), "in": ("role", name, 1, 0)}[tag]
                certificate = find_emptiness_certificate(ontology, concept)
                counts[certificate is None] += 1
                self.assertEqual(certificate is None, is_consistent(ontology, [fact], 4), (ontology, concept))
                if certificate is not None:
                    kinds.add(certificate[0])
                    self.assertIs(is_emptiness_certificate(ontology, concept, certificate), True)
        self.assertGreater(min(counts.values()), 100)
        self.assertEqual(kinds, {"disjoint", "roles", "successor"})

    def test_functional_axioms_make_nothing_empty(self):
        ontology = [("subclass", A, OUT), ("subclass", A, IN), ("subclass", IN, A), ("functional", OUT), ("functional", IN)]
        for concept in (A, OUT, IN):
            self.assertIsNone(find_emptiness_certificate(ontology, concept))

    def test_certificates_through_several_roles(self):
        ontology = [("subclass", A, ("in", "r")), ("subrole_inverse", "r", "s"), ("subclass", ("in", "s"), B),
                    ("subclass", ("out", "r"), ("out", "t")), ("subclass", ("in", "t"), C), ("disjoint", C, ("in", "t"))]
        for concept in (A, ("in", "r"), ("out", "r"), ("out", "t"), ("in", "t")):
            certificate = find_emptiness_certificate(ontology, concept)
            self.assertIs(is_emptiness_certificate(ontology, concept, certificate), True)
        for concept in (B, C, ("in", "s"), ("out", "s"), ("concept", "other"), ("out", "other")):
            self.assertIsNone(find_emptiness_certificate(ontology, concept))

    def test_wrong_concepts(self):
        for wrong in STRANGE + [("out", "R"), ("role", "r"), ("out", "r", "s"), ["out", "r"], ("in", "")]:
            with self.assertRaises(InvalidConcept):
                find_emptiness_certificate([("disjoint", A, A)], wrong)

    def test_new_lists_unchanged_arguments_and_names(self):
        ontology = [("disjoint", A, A), ("subclass", B, A), ("subclass", C, OUT), ("subclass", IN, A), ("disjoint_roles", "s", "s")]
        before = copy.deepcopy(ontology)
        for concept in (A, B, C, ("out", "s")):
            certificate = find_emptiness_certificate(ontology, concept)
            kept = copy.deepcopy(certificate)
            lists = list(self.lists_in(certificate))
            self.assertEqual(len({id(found) for found in lists}), len(lists))
            for found in lists:
                found.append(0)
            self.assertEqual(find_emptiness_certificate(ontology=ontology, concept=concept), kept)
            self.assertIs(is_emptiness_certificate(ontology=tuple(ontology), concept=concept, candidate=kept), True)
        self.assertEqual(ontology, before)

    def lists_in(self, value):
        if isinstance(value, list):
            yield value
        if isinstance(value, tuple):
            for item in value:
                yield from self.lists_in(item)


if __name__ == "__main__":
    unittest.main()
