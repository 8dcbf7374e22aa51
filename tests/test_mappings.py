import copy
import random
import unittest

from factsandfar.errors import InvalidMappings, OntologyError
from factsandfar.facts import check_facts
from factsandfar.mappings import check_mappings, facts_with_provenance, mapped_facts
from oracles import STRANGE, aliases, is_word, random_mapping, random_tables, slow_facts_with_provenance, with_parts_changed

DIGITS_TOO = "abcdefghijklmnopqrstuvwxyz0123456789"
TABLES = {"t": ("s", 1, [("a",), ("b",)]), "u": ("s", 2, [("a", "b"), ("b", "b"), ("c", "a")]), "v": ("s", 3, [])}
HEAD = ("concept", "a", ("p", "x"))


def is_right_mapping(mapping):
    """Point 16, word by word, for these tables."""
    if type(mapping) is not tuple or len(mapping) != 2 or type(mapping[0]) is not tuple or len(mapping[0]) not in (1, 2):
        return False
    body, head = mapping
    for item in body:
        if type(item) is not tuple or len(item) != 2 or type(item[0]) is not str or item[0] not in TABLES or type(item[1]) is not tuple:
            return False
        if len(item[1]) != TABLES[item[0]][1] or not all(is_word(term) or is_constant(term) for term in item[1]):
            return False
    variables = [term for table, terms in body for term in terms if type(term) is str]
    if type(head) is not tuple or len(head) not in (3, 4) or type(head[0]) is not str or not is_word(head[1]):
        return False
    return (head[0], len(head)) in (("concept", 3), ("role", 4)) and all(
        type(template) is tuple and len(template) == 2 and is_word(template[0]) and is_word(template[1]) and template[1] in variables
        for template in head[2:])


def is_constant(term):
    return type(term) is tuple and len(term) == 2 and type(term[0]) is str and term[0] == "value" and is_word(term[1], DIGITS_TOO)


class Check(unittest.TestCase):
    def accepted(self, *mappings):
        self.assertIsNone(check_mappings(TABLES, list(mappings)))
        self.assertIsNone(check_mappings(TABLES, mappings))

    def rejected(self, candidate, index):
        with self.assertRaises(InvalidMappings) as caught:
            check_mappings(TABLES, candidate)
        self.assertIsInstance(caught.exception, OntologyError)
        self.assertEqual((caught.exception.index, type(caught.exception.index)), (index, type(index)), candidate)

    def body_rejected(self, body, head=HEAD):
        self.rejected([(body, head)], 0)
        self.rejected(((((("t", ("x",)),), HEAD)), (body, head), (body, head)), 1)

    def test_numbers_of_body_items(self):
        item = ("t", ("x",))
        self.accepted(((item,), HEAD))
        self.accepted(((item, item), HEAD))
        self.accepted(((item, ("u", ("y", "x"))), HEAD))
        for count in (0, 3, 4):
            self.body_rejected((item,) * count)

    def test_constants(self):
        self.accepted(((("u", ("x", ("value", "1a"))),), HEAD), ((("v", (("value", "x"), "x", ("value", "x"))),), HEAD))
        for wrong in (("value", "A"), ("value", ""), ("value", 1), ("value",), ("value", "a", "b"), ("Value", "a"), ["value", "a"], ("x", "a"),
                      ("value", "abcdefghi"), ("value", None)):
            self.body_rejected((("u", ("x", wrong)),))
            self.body_rejected((("u", (wrong, "x")),))

    def test_unknown_tables_and_wrong_numbers_of_columns(self):
        for table in ("w", "", "T", None, True, 1, ("t",), ["t"], {}, b"t"):
            self.body_rejected(((table, ("x",)),))
            self.body_rejected((("t", ("x",)), (table, ("x",))))
        for table, count in (("t", 1), ("u", 2), ("v", 3)):
            for length in range(6):
                if length != count:
                    self.body_rejected(((table, ("x",) * length),))
            self.accepted((((table, ("x",) * count),), HEAD))

    def test_wrong_terms(self):
        for term in ("", "X", "x1", "abcdefghi", None, 1, True, b"x", ["x"], ()):
            self.body_rejected((("u", ("x", term)),))
        for item in (("u", ["x", "y"]), ["u", ("x", "y")], ("u", "xy"), ("u",), ("u", ("x", "y"), ()), None, "u"):
            self.body_rejected((item,))

    def test_templates(self):
        body = (("u", ("x", "y")),)
        for template in (("p", "x"), ("p", "y"), ("x", "x"), ("abcdefgh", "y")):
            self.accepted((body, ("concept", "a", template)), (body, ("role", "r", ("p", "x"), template)), (body, ("role", "r", template, template)))
        for template in (("p", "z"), ("p", "p"), ("p", "u"), ("P", "x"), ("", "x"), ("p1", "x"), ("p",), ("p", "x", "x"), ["p", "x"], "x", None,
                         ("p", ("value", "x")), ("p", 1), (1, "x"), ("value", "a"), ("p", True)):
            self.body_rejected(body, ("concept", "a", template))
            self.body_rejected(body, ("role", "r", template, ("p", "x")))
            self.body_rejected(body, ("role", "r", ("p", "x"), template))
        self.body_rejected((("t", (("value", "x"),)),), HEAD)
        self.accepted(((("t", (("value", "a"),)), ("t", ("x",))), HEAD))

    def test_heads(self):
        body = (("u", ("x", "y")),)
        for head in (("concept", "a"), ("concept", "a", ("p", "x"), ("p", "x")), ("role", "r", ("p", "x")), ("role", "r") + (("p", "x"),) * 3,
                     ["concept", "a", ("p", "x")], ("Concept", "a", ("p", "x")), ("concept", "A", ("p", "x")), ("concept", ("a",), ("p", "x")), (), None,
                     ("out", "a", ("p", "x")), ("concept", "", ("p", "x"))):
            self.body_rejected(body, head)

    def test_numbers_of_mappings(self):
        mapping = ((("t", ("x",)),), HEAD)
        for count in range(9):
            self.accepted(*[mapping] * count)
        for count in (9, 10, 30):
            self.rejected([mapping] * count, None)
            self.rejected((None,) * count, None)

    def test_any_value_and_one_part_changed(self):
        mapping = ((("t", ("x",)), ("u", ("x", ("value", "b")))), ("role", "r", ("p", "x"), ("q", "x")))
        self.accepted(mapping, mapping)
        for strange in STRANGE:
            if type(strange) not in (list, tuple):
                self.rejected(strange, None)
            elif strange:
                self.rejected(strange, 0)
            else:
                self.assertIsNone(check_mappings(TABLES, strange))
            self.rejected([strange], 0)
            self.rejected((mapping, strange), 1)
        counts = {True: 0, False: 0}
        for candidate in with_parts_changed(mapping):
            expected = is_right_mapping(candidate)
            counts[expected] += 1
            if expected:
                self.accepted(mapping, candidate)
            else:
                self.rejected([mapping, candidate], 1)
        self.assertGreater(min(counts.values()), 5)

    def test_names_and_unchanged_arguments(self):
        tables, mappings = copy.deepcopy(TABLES), [((("t", ("x",)),), HEAD)]
        before = copy.deepcopy(mappings)
        self.assertIsNone(check_mappings(tables=tables, candidate=mappings))
        facts_with_provenance(mappings=mappings, tables=tables)
        mapped_facts(mappings=mappings, tables=tables)
        self.assertEqual((tables, mappings), (TABLES, before))


class Produced(unittest.TestCase):
    def produced(self, mappings, expected, tables=TABLES):
        self.assertIsNone(check_mappings(tables, mappings))
        self.assertEqual(slow_facts_with_provenance(mappings, tables), expected, "the test is wrong")
        self.assertEqual(facts_with_provenance(mappings, tables), expected)
        self.assertEqual(facts_with_provenance(tuple(mappings), {name: tables[name] for name in reversed(tables)}), expected)
        self.assertEqual(mapped_facts(mappings, tables), sorted({fact for fact, index, ids in expected}))

    def test_one_item(self):
        self.produced([((("t", ("x",)),), HEAD)], [(("concept", "a", ("p", "a")), 0, (("t", 0),)), (("concept", "a", ("p", "b")), 0, (("t", 1),))])
        self.produced([((("v", ("x", "y", "z")),), HEAD)], [])
        self.produced([], [])
        self.produced([((("u", ("x", "y")),), ("role", "r", ("p", "y"), ("q", "x")))],
                      [(("role", "r", ("p", "a"), ("q", "c")), 0, (("u", 2),)), (("role", "r", ("p", "b"), ("q", "a")), 0, (("u", 0),)),
                       (("role", "r", ("p", "b"), ("q", "b")), 0, (("u", 1),))])

    def test_constants_and_repeated_variables(self):
        self.produced([((("u", ("x", ("value", "b"))),), HEAD)], [(("concept", "a", ("p", "a")), 0, (("u", 0),)), (("concept", "a", ("p", "b")), 0, (("u", 1),))])
        self.produced([((("u", ("x", "x")),), HEAD)], [(("concept", "a", ("p", "b")), 0, (("u", 1),))])
        self.produced([((("u", (("value", "b"), ("value", "a"))), ("t", ("x",))), HEAD)], [])

    def test_two_items(self):
        self.produced([((("u", ("x", "y")), ("t", ("y",))), ("role", "r", ("p", "x"), ("p", "y")))],
                      [(("role", "r", ("p", "a"), ("p", "b")), 0, (("u", 0), ("t", 1))), (("role", "r", ("p", "b"), ("p", "b")), 0, (("u", 1), ("t", 1))),
                       (("role", "r", ("p", "c"), ("p", "a")), 0, (("u", 2), ("t", 0)))])

    def test_two_items_from_one_table(self):
        self.produced([((("u", ("x", "y")), ("u", ("y", "z"))), ("role", "r", ("p", "x"), ("p", "z")))],
                      [(("role", "r", ("p", "a"), ("p", "b")), 0, (("u", 0), ("u", 1))), (("role", "r", ("p", "b"), ("p", "b")), 0, (("u", 1), ("u", 1))),
                       (("role", "r", ("p", "c"), ("p", "b")), 0, (("u", 2), ("u", 0)))])
        self.produced([((("t", ("x",)), ("t", ("y",))), HEAD)],
                      [(("concept", "a", ("p", "a")), 0, (("t", 0), ("t", 0))), (("concept", "a", ("p", "a")), 0, (("t", 0), ("t", 1))),
                       (("concept", "a", ("p", "b")), 0, (("t", 1), ("t", 0))), (("concept", "a", ("p", "b")), 0, (("t", 1), ("t", 1)))])

    def test_one_fact_from_several_rows_and_mappings(self):
        mapping = ((("u", ("y", "x")),), HEAD)
        self.produced([mapping, ((("t", ("x",)),), HEAD), mapping],
                      [(("concept", "a", ("p", "a")), 0, (("u", 2),)), (("concept", "a", ("p", "a")), 1, (("t", 0),)),
                       (("concept", "a", ("p", "a")), 2, (("u", 2),)), (("concept", "a", ("p", "b")), 0, (("u", 0),)),
                       (("concept", "a", ("p", "b")), 0, (("u", 1),)), (("concept", "a", ("p", "b")), 1, (("t", 1),)),
                       (("concept", "a", ("p", "b")), 2, (("u", 0),)), (("concept", "a", ("p", "b")), 2, (("u", 1),))])

    def test_against_the_words(self):
        rng = random.Random(121)
        filled = 0
        while filled < 100:
            tables = random_tables(rng)
            mappings = [random_mapping(rng, ["a", "b"], ["r", "s"]) for number in range(rng.randrange(5))]
            self.assertIsNone(check_mappings(tables, mappings))
            found = facts_with_provenance(mappings, tables)
            self.assertEqual(found, slow_facts_with_provenance(mappings, tables))
            facts = mapped_facts(mappings, tables)
            self.assertIsNone(check_facts(facts))
            self.assertEqual(facts, sorted({fact for fact, index, ids in found}))
            filled += len(facts) > 3

    def test_new_lists(self):
        mappings = [((("t", ("x",)),), HEAD)]
        for function in (facts_with_provenance, mapped_facts):
            first, second = function(mappings, TABLES), function(mappings, TABLES)
            self.assertEqual(first, second)
            ids = aliases(first) + aliases(second) + aliases((mappings, TABLES))
            self.assertEqual(len(set(ids)), len(ids))


if __name__ == "__main__":
    unittest.main()
