import copy
import random
import unittest

from factsandfar.answering import certain_answers, find_certificate, is_certificate
from factsandfar.conflicts import find_conflict, is_conflict
from factsandfar.errors import Inconsistent, InvalidRenaming, LimitExceeded, OntologyError
from factsandfar.justifications import answer_justifications, conflict_sets
from factsandfar.knowledge_base import KnowledgeBase
from factsandfar.mappings import mapped_facts
from factsandfar.renaming import rename_facts, rename_mappings, rename_ontology, rename_query, rename_tables
from factsandfar.rewriting import rewrite
from oracles import (
    STRANGE, TAGS, aliases, all_axioms, is_word, random_facts, random_mapping, random_ontology, random_query, random_tables, with_parts_changed)

A, B = ("concept", "a"), ("concept", "b")
T, U = ("p", "1"), ("a", "r")
ONTOLOGY = [("subclass", A, ("out", "r")), ("disjoint", B, ("in", "s")), ("subrole", "r", "s"), ("subrole_inverse", "a", "r"),
            ("disjoint_roles", "r", "a"), ("disjoint_inverse", "s", "s"), ("functional", ("out", "q"))]
FACTS = [("concept", "a", T), ("role", "a", T, U), ("role", "r", U, ("r", "a")), ("concept", "b", U)]
QUERY = (("a", U, "r"), (("concept", "a", "a"), ("role", "a", "a", "r"), ("role", "r", U, "r")))
MAPPINGS = [((("a", ("a", "r")), ("r", ("r", ("value", "a")))), ("concept", "a", ("a", "r"))), ((("t", ("a",)),), ("role", "a", ("a", "a"), ("r", "a")))]
TABLES = {"a": ("s", 2, [("a", "s")]), "t": ("a", 1, []), "r": ("s", 2, [])}

# Each function with an argument, the renamings that come after it, and the words of each sort in the argument.
CASES = [
    (rename_ontology, ONTOLOGY, ("concepts", "roles"), (["a", "b"], ["r", "s", "a", "q"])),
    (rename_facts, FACTS, ("concepts", "roles"), (["a", "b"], ["a", "r"])),
    (rename_query, QUERY, ("concepts", "roles"), (["a"], ["a", "r"])),
    (rename_tables, TABLES, ("names", "sources"), (["a", "t", "r"], ["s", "a"])),
    (rename_mappings, MAPPINGS, ("concepts", "roles", "names"), (["a"], ["a"], ["a", "r", "t"])),
]


def is_right_renaming(value, words):
    """Point 26, word by word."""
    if type(value) is not dict or not all(is_word(key) and is_word(value[key]) for key in value):
        return False
    if len(set(value.values())) < len(value):
        return False
    return len({value.get(word, word) for word in words}) == len(set(words))


class Renamed(unittest.TestCase):
    def test_ontology(self):
        self.assertEqual(rename_ontology(ONTOLOGY, {}, {}), ONTOLOGY)
        self.assertEqual(rename_ontology([], {"a": "b"}, {"r": "s"}), [])
        expected = [("subclass", ("concept", "c"), ("out", "x")), ("disjoint", B, ("in", "s")), ("subrole", "x", "s"), ("subrole_inverse", "y", "x"),
                    ("disjoint_roles", "x", "y"), ("disjoint_inverse", "s", "s"), ("functional", ("out", "q"))]
        self.assertEqual(rename_ontology(ONTOLOGY, {"a": "c"}, {"r": "x", "a": "y"}), expected)
        self.assertEqual(rename_ontology(tuple(ONTOLOGY), {"a": "c"}, {"r": "x", "a": "y"}), expected)
        self.assertEqual(rename_ontology([("functional", ("in", "r"))], {}, {"r": "z"}), [("functional", ("in", "z"))])

    def test_facts(self):
        expected = [("concept", "c", T), ("role", "a", T, U), ("role", "r", U, ("r", "a")), ("concept", "b", U)]
        self.assertEqual(rename_facts(FACTS, {"a": "c"}, {}), expected)
        self.assertEqual(rename_facts(tuple(FACTS), {"a": "c"}, {}), expected)
        expected = [("concept", "a", T), ("role", "c", T, U), ("role", "d", U, ("r", "a")), ("concept", "b", U)]
        self.assertEqual(rename_facts(FACTS, {"p": "q"}, {"a": "c", "r": "d"}), expected)
        self.assertEqual(rename_facts([], {}, {}), [])

    def test_query(self):
        expected = (("a", U, "r"), (("concept", "c", "a"), ("role", "r", "a", "r"), ("role", "a", U, "r")))
        self.assertEqual(rename_query(QUERY, {"a": "c"}, {"a": "r", "r": "a"}), expected)

    def test_tables(self):
        expected = {"x": ("y", 2, [("a", "s")]), "t": ("a", 1, []), "r": ("y", 2, [])}
        self.assertEqual(rename_tables(TABLES, {"a": "x"}, {"s": "y"}), expected)
        self.assertEqual(rename_tables({}, {"a": "x"}, {"s": "y"}), {})
        swapped = {"t": ("a", 2, [("a", "s")]), "a": ("s", 1, []), "r": ("a", 2, [])}
        self.assertEqual(rename_tables(TABLES, {"a": "t", "t": "a"}, {"s": "a", "a": "s"}), swapped)

    def test_mappings(self):
        expected = [((("x", ("a", "r")), ("r", ("r", ("value", "a")))), ("concept", "c", ("a", "r"))), ((("t", ("a",)),), ("role", "d", ("a", "a"), ("r", "a")))]
        self.assertEqual(rename_mappings(MAPPINGS, {"a": "c"}, {"a": "d"}, {"a": "x"}), expected)
        self.assertEqual(rename_mappings(tuple(MAPPINGS), {"a": "c"}, {"a": "d"}, {"a": "x"}), expected)
        self.assertEqual(rename_mappings([], {}, {}, {}), [])

    def test_a_word_of_two_sorts(self):
        self.assertEqual(rename_ontology([("subclass", A, ("out", "a"))], {"a": "b"}, {}), [("subclass", B, ("out", "a"))])
        self.assertEqual(rename_ontology([("subclass", A, ("out", "a"))], {}, {"a": "b"}), [("subclass", A, ("out", "b"))])
        self.assertEqual(rename_ontology([("subclass", A, ("out", "b"))], {"a": "b"}, {}), [("subclass", B, ("out", "b"))])
        self.assertEqual(rename_tables({"a": ("b", 1, [])}, {"a": "b"}, {}), {"b": ("b", 1, [])})

    def test_swapped_words(self):
        swap = {"a": "b", "b": "a"}
        self.assertEqual(rename_ontology([("subclass", A, B), ("subrole", "a", "b")], swap, swap), [("subclass", B, A), ("subrole", "b", "a")])
        chain = {"a": "b", "b": "c"}
        self.assertEqual(rename_facts([("concept", "a", T), ("concept", "b", T)], chain, {}), [("concept", "b", T), ("concept", "c", T)])

    def test_new_values_unchanged_arguments_and_names(self):
        for function, argument, parameters, words in CASES:
            renamings = [{word: "n" + word for word in sort} for sort in words]
            before = copy.deepcopy((argument, renamings))
            first = function(argument, *renamings)
            second = function(argument, **dict(zip(parameters, renamings)))
            self.assertEqual(first, second)
            if function is not rename_query:
                self.assertEqual(type(first), type(argument))
            found = aliases(first) + aliases(second) + aliases([argument, renamings])
            self.assertEqual(len(set(found)), len(found))
            self.assertEqual((argument, renamings), before)
            same = function(argument, *[{} for sort in words])
            self.assertEqual(same, argument)
            self.assertFalse(set(aliases(same)) & set(aliases(argument)))


class Invalid(unittest.TestCase):
    def check(self, function, argument, renamings, is_right):
        if is_right:
            function(argument, *renamings)
            return
        with self.assertRaises(InvalidRenaming, msg=repr((function, renamings))) as caught:
            function(argument, *renamings)
        self.assertIsInstance(caught.exception, OntologyError)

    def each_place(self, value, rights=None):
        """The value in the place of each renaming of each function, with renamings that are right in the other places."""
        for function, argument, parameters, words in CASES:
            for position, sort in enumerate(words):
                renamings = [{} for other in words]
                renamings[position] = value
                is_right = is_right_renaming(value, sort)
                if rights is not None:
                    self.assertEqual(is_right, rights)
                self.check(function, argument, renamings, is_right)

    def test_words_that_are_not_in_the_argument(self):
        self.each_place({"z": "y"}, True)
        self.each_place({"z": "y", "y": "z"}, True)
        self.each_place({}, True)

    def test_a_name_that_another_word_keeps(self):
        for function, argument, parameters, words in CASES:
            for position, sort in enumerate(words):
                for one in sort:
                    renamings = [{} for other in words]
                    for other in sort:
                        renamings[position] = {one: other}
                        self.check(function, argument, renamings, one == other)
                        renamings[position] = {one: other, other: one}
                        self.check(function, argument, renamings, True)
                    renamings[position] = {one: "unused"}
                    self.check(function, argument, renamings, True)
                    renamings[position] = {"unused": one}
                    self.check(function, argument, renamings, True)

    def test_where_that_word_does_not_occur(self):
        self.assertEqual(rename_ontology([("subclass", A, A)], {"a": "b"}, {"r": "s"}), [("subclass", B, B)])
        self.assertRaises(InvalidRenaming, rename_ontology, [("subclass", A, B)], {"a": "b"}, {})
        self.assertRaises(InvalidRenaming, rename_ontology, [("subrole", "r", "s")], {}, {"r": "s"})
        self.assertRaises(InvalidRenaming, rename_ontology, [("functional", ("in", "r")), ("disjoint", ("out", "s"), A)], {}, {"s": "r"})
        self.assertEqual(rename_ontology([("subclass", A, ("out", "s"))], {"a": "s"}, {"s": "a"}), [("subclass", ("concept", "s"), ("out", "a"))])
        self.assertRaises(InvalidRenaming, rename_tables, {"t": ("s", 1, []), "u": ("z", 1, [])}, {}, {"s": "z"})
        self.assertRaises(InvalidRenaming, rename_tables, {"t": ("s", 1, []), "u": ("z", 1, [])}, {"u": "t"}, {})
        self.assertEqual(rename_tables({"t": ("s", 1, []), "u": ("s", 1, [])}, {}, {"s": "z"}), {"t": ("z", 1, []), "u": ("z", 1, [])})
        self.assertRaises(InvalidRenaming, rename_mappings, MAPPINGS, {}, {}, {"t": "r"})

    def test_two_words_with_one_new_name(self):
        self.each_place({"a": "n", "b": "n"}, False)
        self.each_place({"y": "n", "z": "n"}, False)
        self.each_place({"n": "n", "z": "n"}, False)

    def test_keys_and_values_that_are_not_words(self):
        for wrong in ("", "A", "a1", "a b", "abcdefghi", "a.b", None, 1, True, ("a",), b"a", 1.0):
            self.each_place({"z": wrong}, False)
            self.each_place({wrong: "z"}, False)
            self.each_place({"y": "z", wrong: "x"}, False)
        self.each_place({"z": ["a"]}, False)
        self.each_place({"abcdefgh": "hgfedcba"}, True)

    def test_any_value(self):
        for value in STRANGE:
            if type(value) is not dict or value:
                self.each_place(value, False)
                for function, argument, parameters, words in CASES:
                    self.check(function, argument, [value for sort in words], False)
        self.each_place([("a", "b")], False)

    def test_one_part_changed(self):
        for value in with_parts_changed({"a": "s", "r": "x"}):
            self.each_place(value)


class Results(unittest.TestCase):
    """Of point 3, (h)."""

    concepts, roles, names, sources = {"a": "b", "b": "xa"}, {"r": "s", "s": "r"}, {"t": "u", "u": "t", "v": "w"}, {"s": "src", "z": "q"}

    def renamed_rows(self, sets):
        return sorted(tuple(sorted((self.names[table], position) for table, position in rows)) for rows in sets)

    def test_over_facts(self):
        rng = random.Random(201)
        consistent = conflicting = 0
        while consistent < 60 or conflicting < 20:
            ontology = random_ontology(rng, ["a", "b"], ["r", "s"], positive=3, negative=rng.randrange(3))
            facts = random_facts(rng, ["a", "b"], ["r", "s"], [T, U, ("r", "s")], 5)
            query = random_query(rng, ["a", "b"], ["r", "s"], [T, U], most=3)
            other = rename_ontology(ontology, self.concepts, self.roles)
            other_facts, other_query = rename_facts(facts, self.concepts, self.roles), rename_query(query, self.concepts, self.roles)
            if find_conflict(ontology, facts) is not None:
                self.assertTrue(is_conflict(other, other_facts, find_conflict(other, other_facts)))
                conflicting += 1
                continue
            answers = certain_answers(ontology, facts, query)
            self.assertEqual(certain_answers(other, other_facts, other_query), answers)
            for answer in answers:
                certificate = find_certificate(ontology, facts, query, answer)
                steps = [(rename_facts([fact], self.concepts, self.roles)[0], reason) for fact, reason in certificate[0]]
                self.assertTrue(is_certificate(other, other_facts, other_query, answer, (steps, *certificate[1:])))
            self.assertEqual(self.size(rewrite, other, other_query), self.size(rewrite, ontology, query))
            consistent += 1

    def size(self, function, *arguments):
        try:
            return len(function(*arguments))
        except LimitExceeded as error:
            return f"more than {error.limit}"

    def test_over_tables(self):
        rng = random.Random(202)
        consistent = conflicting = 0
        while consistent < 40 or conflicting < 20:
            ontology = random_ontology(rng, ["a", "b"], ["r", "s"], positive=2, negative=rng.randrange(3))
            tables = {name: (rng.choice("sz"), count, rows) for name, (source, count, rows) in random_tables(rng).items()}
            mappings = [random_mapping(rng, ["a", "b"], ["r", "s"]) for number in range(3)]
            query = random_query(rng, ["a", "b"], ["r", "s"], [T], most=2)
            other, other_query = rename_ontology(ontology, self.concepts, self.roles), rename_query(query, self.concepts, self.roles)
            other_tables = rename_tables(tables, self.names, self.sources)
            other_mappings = rename_mappings(mappings, self.concepts, self.roles, self.names)
            facts = mapped_facts(mappings, tables)
            self.assertEqual(mapped_facts(other_mappings, other_tables), sorted(rename_facts(facts, self.concepts, self.roles)))
            try:
                sets = conflict_sets(ontology, mappings, tables)
            except LimitExceeded:
                continue
            self.assertEqual(conflict_sets(other, other_mappings, other_tables), self.renamed_rows(sets))
            base = KnowledgeBase(ontology, mappings=mappings, tables=tables)
            other_base = KnowledgeBase(other, mappings=other_mappings, tables=other_tables)
            self.assertEqual(base.inconsistent_since(), other_base.inconsistent_since())
            conflicting += sets != []
            try:
                answers = base.answers(query, offline=("z",))
            except Inconsistent:
                self.assertRaises(Inconsistent, other_base.answers, other_query, offline=("q",))
                continue
            self.assertEqual(other_base.answers(other_query, offline=("q",)), answers)
            for answer in answers[:2]:
                try:
                    justified = answer_justifications(ontology, mappings, tables, query, answer)
                except LimitExceeded:
                    continue
                self.assertEqual(answer_justifications(other, other_mappings, other_tables, other_query, answer), self.renamed_rows(justified))
            consistent += 1

    def test_and_back(self):
        rng = random.Random(203)
        axioms = all_axioms(["a", "b"], ["r", "s"], [tag for tag in TAGS if tag != "functional"])
        back = {"b": "a", "xa": "b"}
        for turn in range(50):
            ontology = rng.sample(axioms, 8)
            self.assertEqual(rename_ontology(rename_ontology(ontology, self.concepts, self.roles), back, self.roles), ontology)


if __name__ == "__main__":
    unittest.main()
