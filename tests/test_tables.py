import copy
import itertools
import random
import unittest

from factsandfar.errors import InvalidConstraints, InvalidTables, OntologyError
from factsandfar.tables import check_constraints, check_tables, violated_constraints
from oracles import STRANGE, aliases, is_word, random_tables, with_parts_changed

DIGITS_TOO = "abcdefghijklmnopqrstuvwxyz0123456789"


def is_right_table(entry):
    """Point 15, word by word."""
    if type(entry) is not tuple or len(entry) != 3 or not is_word(entry[0]) or type(entry[1]) is not int or entry[1] not in (1, 2, 3):
        return False
    source, count, rows = entry
    if type(rows) is not list or len(rows) > 12:
        return False
    if not all(type(row) is tuple and len(row) == count and all(is_word(value, DIGITS_TOO) for value in row) for row in rows):
        return False
    return len(set(rows)) == len(rows)


class Tables(unittest.TestCase):
    def rejected(self, candidate, table):
        with self.assertRaises(InvalidTables) as caught:
            check_tables(candidate)
        self.assertIsInstance(caught.exception, OntologyError)
        self.assertEqual(caught.exception.table, table, candidate)

    def entry_rejected(self, entry):
        self.rejected({"t": entry}, "t")
        self.rejected({"a": ("s", 1, []), "t": entry, "z": ("s", 1, [])}, "t")

    def test_numbers_of_entries(self):
        names = "abcdef"
        for count in range(5):
            self.assertIsNone(check_tables({name: ("s", 1, [("x",)]) for name in names[:count]}))
        for count in (5, 6):
            self.rejected({name: ("s", 1, []) for name in names[:count]}, None)
            self.rejected({name: None for name in names[:count]}, None)
        self.assertIsNone(check_tables(candidate={}))

    def test_entries(self):
        for entry in [("s", 1, []), ("abcdefgh", 2, [("1", "2"), ("2", "1")]), ("s", 3, [("a", "a", "a"), ("12345678", "0", "x9")])]:
            self.assertIsNone(check_tables({"t": entry}))
            self.assertIs(is_right_table(entry), True)
            self.entry_rejected(list(entry))
            self.entry_rejected(entry[:2])
            self.entry_rejected(entry + ([],))

    def test_sources(self):
        for source in ("", "S", "s1", "abcdefghi", "s s", None, True, 1, b"s", ("s",), ["s"]):
            self.entry_rejected((source, 1, []))

    def test_numbers_of_columns(self):
        for count in (0, 4, -1, True, False, 1.0, "1", None, (1,), 99999999999999999999):
            self.entry_rejected(("s", count, []))
        for count in (1, 2, 3):
            self.assertIsNone(check_tables({"t": ("s", count, [])}))
            self.entry_rejected(("s", count, [("a",) * (count - 1)]))
            self.entry_rejected(("s", count, [("a",) * (count + 1)]))
            self.entry_rejected(("s", count, [("a",) * count, ("b",) * (count + 1)]))
        self.entry_rejected(("s", True, [("a",)]))

    def test_numbers_of_rows(self):
        rows = [(value,) for value in DIGITS_TOO]
        self.assertIsNone(check_tables({"t": ("s", 1, rows[:12])}))
        self.entry_rejected(("s", 1, rows[:13]))
        self.entry_rejected(("s", 1, rows))

    def test_equal_rows(self):
        self.entry_rejected(("s", 1, [("a",), ("a",)]))
        self.entry_rejected(("s", 2, [("a", "b"), ("b", "a"), ("a", "b")]))
        self.assertIsNone(check_tables({"t": ("s", 1, [("a",)]), "u": ("s", 1, [("a",)])}))

    def test_rows_and_values_of_other_kinds(self):
        for value in ("", "A", "abcdefghi", "a b", "a-b", None, True, 1, b"a", ("a",), ["a"]):
            self.entry_rejected(("s", 1, [(value,)]))
            self.entry_rejected(("s", 2, [("a", "b"), ("a", value)]))
        for rows in ((), (("a",),), None, {("a",): 1}, "a", [["a"]], ["a"], [None], [("a",), ["b"]], True):
            self.entry_rejected(("s", 1, rows))

    def test_keys_that_are_not_words(self):
        for key in ("", "T", "t1", "abcdefghi", 1, None, True, ("t",), b"t", 0.0):
            self.rejected({key: ("s", 1, [])}, None)
            self.rejected({"t": ("s", 1, []), key: ("s", 1, [])}, None)
            self.rejected({"t": None, key: ("s", 1, [])}, None)

    def test_the_smallest_of_several_invalid_entries(self):
        for order in itertools.permutations(["b", "ab", "c", "a"]):
            self.rejected({name: ("s", 1, []) if name == "a" else None for name in order}, "ab")
            self.rejected({name: ("s", 1, []) if name in ("a", "ab") else ("s", 0, []) for name in order}, "b")

    def test_any_value(self):
        for strange in STRANGE:
            if repr(strange) == "{}":
                self.assertIsNone(check_tables(strange))
            elif repr(strange) == repr({"a": 1}):
                self.rejected(strange, "a")
            else:
                self.rejected(strange, None)
            self.entry_rejected(strange)
            for part in range(3):
                entry = ("s", 1, [("a",)])[:part] + (strange,) + ("s", 1, [("a",)])[part + 1:]
                if not is_right_table(entry):
                    self.entry_rejected(entry)
            for entry in (("s", 1, [strange]), ("s", 1, [(strange,)])):
                if is_right_table(entry):
                    self.assertIsNone(check_tables({"t": entry}))
                else:
                    self.entry_rejected(entry)

    def test_one_part_changed(self):
        counts = {True: 0, False: 0}
        for entry in with_parts_changed(("s", 2, [("a", "1"), ("b", "2")])):
            expected = is_right_table(entry)
            counts[expected] += 1
            if expected:
                self.assertIsNone(check_tables({"t": entry}))
            else:
                self.rejected({"t": entry}, "t")
        self.assertGreater(min(counts.values()), 5)

    def test_unchanged_arguments(self):
        tables = {"t": ("s", 1, [("b",), ("a",)])}
        before = copy.deepcopy(tables)
        check_tables(tables)
        self.assertEqual(tables, before)


class Constraints(unittest.TestCase):
    tables = {"t": ("s", 1, [("a",)]), "u": ("s", 3, [("a", "b", "c"), ("b", "b", "c")])}

    def accepted(self, *constraints):
        self.assertIsNone(check_constraints(self.tables, list(constraints)))

    def rejected(self, candidate, index):
        with self.assertRaises(InvalidConstraints) as caught:
            check_constraints(self.tables, candidate)
        self.assertIsInstance(caught.exception, OntologyError)
        self.assertEqual((caught.exception.index, type(caught.exception.index)), (index, type(index)), candidate)

    def test_numbers_of_items(self):
        for count in range(9):
            self.accepted(*[("key", "u", number % 3) for number in range(count)])
        for count in (9, 10, 20):
            self.rejected([("key", "u", 0)] * count, None)
            self.rejected([None] * count, None)

    def test_keys(self):
        for table, columns in (("t", 1), ("u", 3)):
            for column in range(-3, 6):
                if 0 <= column < columns:
                    self.accepted(("key", table, column))
                else:
                    self.rejected([("key", table, column)], 0)

    def test_foreign_keys(self):
        self.accepted(("foreign_key", "t", 0, "u", 2))
        self.accepted(("foreign_key", "u", 2, "t", 0))
        self.accepted(("foreign_key", "u", 1, "u", 0))
        self.accepted(("foreign_key", "u", 1, "u", 1))
        for wrong in [("foreign_key", "t", 1, "u", 2), ("foreign_key", "t", 0, "u", 3), ("foreign_key", "t", 0, "u", -1), ("foreign_key", "t", -1, "u", 0),
                      ("foreign_key", "x", 0, "u", 0), ("foreign_key", "t", 0, "x", 0), ("foreign_key", "t", 0, "u"), ("foreign_key", "t", 0),
                      ("foreign_key", "t", 0, "u", 0, 0), ("key", "t", 0, "u", 0), ("key", "t"), ("Key", "t", 0), ("key", "t", 0, 0), ()]:
            self.rejected([wrong], 0)
            self.rejected([("key", "t", 0), wrong, wrong], 1)

    def test_unknown_tables(self):
        for table in ("x", "", "T", None, True, 0, ("t",), ["t"], {"t": 1}, b"t"):
            self.rejected([("key", table, 0)], 0)
            self.rejected([("foreign_key", table, 0, "t", 0)], 0)
            self.rejected([("key", "u", 0), ("foreign_key", "t", 0, table, 0)], 1)

    def test_true_and_false_in_place_of_columns(self):
        for column in (True, False, 0.0, 1.0, "0", None, (0,), [0]):
            self.rejected([("key", "u", column)], 0)
            self.rejected([("foreign_key", "u", column, "u", 0)], 0)
            self.rejected([("foreign_key", "u", 0, "u", column)], 0)

    def test_equal_constraints(self):
        self.accepted(("key", "t", 0), ("key", "t", 0))
        self.accepted(("foreign_key", "u", 0, "u", 0), ("key", "t", 0), ("foreign_key", "u", 0, "u", 0))

    def test_any_value(self):
        for strange in STRANGE + [(("key", "t", 0),), {0: ("key", "t", 0)}]:
            if repr(strange) == "[]":
                self.accepted()
            elif type(strange) is list:
                self.rejected(strange, 0)
            else:
                self.rejected(strange, None)
            self.rejected([strange], 0)
            self.rejected([("key", "t", 0), strange], 1)
        for right in (("key", "u", 1), ("foreign_key", "t", 0, "u", 1)):
            for candidate in with_parts_changed(right):
                if not self.is_right(candidate):
                    self.rejected([right, candidate], 1)
                else:
                    self.accepted(right, candidate)

    def is_right(self, item):
        """Point 15, word by word."""
        if type(item) is not tuple or [type(part) for part in item] not in ([str, str, int], [str, str, int, str, int]):
            return False
        if (item[0], len(item)) not in (("key", 3), ("foreign_key", 5)):
            return False
        return all(table in self.tables and 0 <= column < self.tables[table][1] for table, column in zip(item[1::2], item[2::2]))

    def test_names_and_unchanged_arguments(self):
        tables, constraints = copy.deepcopy(self.tables), [("key", "t", 0)]
        self.assertIsNone(check_constraints(tables=tables, candidate=constraints))
        self.assertEqual(violated_constraints(tables=tables, constraints=constraints), [])
        self.assertEqual((tables, constraints), (self.tables, [("key", "t", 0)]))


class Violated(unittest.TestCase):
    def violated(self, tables, constraints, expected):
        self.assertIsNone(check_tables(tables))
        self.assertIsNone(check_constraints(tables, constraints))
        self.assertEqual(violated_constraints(tables, constraints), expected)

    def test_keys(self):
        tables = {"t": ("s", 2, [("a", "b"), ("c", "b")]), "u": ("s", 1, []), "v": ("s", 1, [("a",)])}
        self.violated(tables, [("key", "t", 0), ("key", "t", 1), ("key", "u", 0), ("key", "v", 0)], [1])
        self.violated(tables, [("key", "t", 1), ("key", "t", 1), ("key", "t", 0), ("key", "t", 1)], [0, 1, 3])
        self.violated(tables, [], [])

    def test_foreign_keys(self):
        tables = {"t": ("s", 2, [("a", "b"), ("c", "b")]), "u": ("s", 1, []), "v": ("s", 1, [("a",)])}
        self.violated(tables, [("foreign_key", "v", 0, "t", 0), ("foreign_key", "t", 0, "v", 0)], [1])
        self.violated(tables, [("foreign_key", "u", 0, "t", 0), ("foreign_key", "t", 0, "u", 0)], [1])
        self.violated(tables, [("foreign_key", "v", 0, "t", 1), ("foreign_key", "t", 1, "v", 0)], [0, 1])
        self.violated(tables, [("foreign_key", "t", 0, "t", 1), ("foreign_key", "t", 0, "t", 0), ("foreign_key", "t", 1, "t", 0)], [0, 2])

    def test_a_table_and_itself(self):
        tables = {"t": ("s", 2, [("a", "a"), ("b", "a")])}
        self.violated(tables, [("foreign_key", "t", 1, "t", 0), ("foreign_key", "t", 0, "t", 1), ("foreign_key", "t", 0, "t", 0)], [1])

    def test_against_the_words(self):
        rng = random.Random(111)
        counts = {True: 0, False: 0}
        for turn in range(200):
            tables = random_tables(rng)
            columns = [("t", 0), ("u", 0), ("u", 1), ("v", 0), ("v", 1), ("v", 2)]
            constraints = [("key", *rng.choice(columns)) if rng.randrange(2) else ("foreign_key", *rng.choice(columns), *rng.choice(columns))
                           for number in range(rng.randrange(9))]
            found = violated_constraints(tables, constraints)
            self.assertEqual(found, sorted(found))
            for index, constraint in enumerate(constraints):
                expected = not self.holds(tables, constraint)
                self.assertIs(index in found, expected)
                counts[expected] += 1
        self.assertGreater(min(counts.values()), 100)

    def holds(self, tables, constraint):
        rows, column = tables[constraint[1]][2], constraint[2]
        if constraint[0] == "key":
            return all(one[column] != other[column] for one, other in itertools.combinations(rows, 2))
        return {row[column] for row in rows} <= {row[constraint[4]] for row in tables[constraint[3]][2]}

    def test_new_lists(self):
        tables = {"t": ("s", 1, [("a",)]), "u": ("s", 1, [])}
        constraints = [("foreign_key", "t", 0, "u", 0)]
        first, second = violated_constraints(tables, constraints), violated_constraints(tables, constraints)
        self.assertEqual(len(set(aliases(first) + aliases(second))), 2)
        first.clear()
        self.assertEqual(violated_constraints(tables, constraints), [0])


if __name__ == "__main__":
    unittest.main()
