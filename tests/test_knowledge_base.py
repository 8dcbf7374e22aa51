import copy
import inspect
import itertools
import random
import unittest

from factsandfar.axioms import check_ontology
from factsandfar.conflicts import is_conflict
from factsandfar.errors import (
    Inconsistent, InvalidChange, InvalidMappings, InvalidOntology, InvalidQuery, InvalidTables, OntologyError, UnknownName)
from factsandfar.knowledge_base import KnowledgeBase
from factsandfar.mappings import check_mappings
from factsandfar.tables import check_tables
from oracles import (
    STRANGE, AlwaysEqual, aliases, all_axioms, is_consistent, is_slow_query, is_word, random_mapping, random_ontology, random_query,
    random_tables, slow_base_answers, slow_mapped_facts, with_parts_changed, TAGS)

A, B, C = ("concept", "a"), ("concept", "b"), ("concept", "c")
DISJOINT, INCLUDED = ("disjoint", A, B), ("subclass", A, C)
ANN, BOB = ("p", "ann"), ("p", "bob")
T_A = ((("t", ("e",)),), ("concept", "a", ("p", "e")))
U_B = ((("u", ("e",)),), ("concept", "b", ("p", "e")))
TABLES = {"t": ("hr", 1, [("ann",)]), "u": ("front", 1, [("ann",)])}
QUERY = (("x",), (("concept", "a", "x"),))
OTHER = (("x",), (("concept", "b", "x"),))


def base_of(*, ontology=(), mappings=(T_A, U_B), tables=TABLES):
    return KnowledgeBase(ontology, mappings=mappings, tables=tables)


def parts(base):
    return base.ontology(), base.mappings(), base.tables()


def everything(base):
    """All that a knowledge base tells, apart from what it computes."""
    return parts(base), base.version(), base.log(), len(base)


def is_valid(ontology, mappings, tables):
    try:
        check_ontology(ontology)
        check_tables(tables)
        check_mappings(tables, mappings)
    except OntologyError:
        return False
    return True


def is_among(value, items):
    """Whether a value, which may be of any kind, is one of the items."""
    return any(type(value) is type(item) and repr(value) == repr(item) for item in items)


def slow_change(state, change):
    """Point 21, word by word: the ontology, mappings and tables after a change, or None if it is invalid."""
    if type(change) is not tuple or not change or type(change[0]) is not str:
        return None
    ontology, mappings, tables = copy.deepcopy(state)
    tag, details = change[0], change[1:]
    if (tag, len(details)) not in [("add_axiom", 1), ("remove_axiom", 1), ("add_mapping", 1), ("remove_mapping", 1), ("add_row", 2), ("remove_row", 2),
                                   ("add_table", 3), ("remove_table", 1)]:
        return None
    kind = tag.split("_")[1]
    known = {"axiom": ontology, "mapping": mappings}.get(kind)
    if kind in ("row", "table"):
        name = details[0]
        if not is_word(name) or (name in tables) != (tag != "add_table"):
            return None
        if kind == "row":
            known, details = tables[name][2], details[1:]
    if tag == "add_table":
        tables[name] = (*details[1:], [])
    elif tag == "remove_table":
        if tables[name][2] or any(name == table for body, head in mappings for table, terms in body):
            return None
        del tables[name]
    elif tag.startswith("add"):
        if is_among(details[0], known):
            return None
        known.append(details[0])
    else:
        if not is_among(details[0], known):
            return None
        known.remove(details[0])
    return (ontology, mappings, tables) if is_valid(ontology, mappings, tables) else None


class Construction(unittest.TestCase):
    def test_without_arguments(self):
        base = KnowledgeBase()
        self.assertEqual(everything(base), (([], [], {}), 0, [], 0))
        self.assertEqual(everything(KnowledgeBase(tables=None)), everything(base))
        self.assertEqual((base.facts(), base.inconsistent_since(), base.answers(QUERY)), ([], None, []))

    def test_lists_and_tuples(self):
        one = KnowledgeBase([DISJOINT], mappings=[T_A, U_B], tables=TABLES)
        other = KnowledgeBase((DISJOINT,), mappings=(T_A, U_B), tables=TABLES)
        for base in (one, other, KnowledgeBase(ontology=[DISJOINT], tables=TABLES, mappings=(T_A, U_B))):
            self.assertEqual(everything(base), (([DISJOINT], [T_A, U_B], TABLES), 0, [], 2))
        self.assertTrue(one == other)

    def test_mappings_and_tables_by_name_only(self):
        self.assertEqual(str(inspect.signature(KnowledgeBase)), "(ontology=(), *, mappings=(), tables=None)")
        self.assertRaises(TypeError, KnowledgeBase, [], [])

    def test_equal_mappings_are_allowed(self):
        self.assertEqual(base_of(mappings=[T_A, T_A]).mappings(), [T_A, T_A])

    def test_invalid_arguments(self):
        for wrong, index in (([DISJOINT, DISJOINT], 1), (None, None), ([None], 0), ({}, None), ([("functional", ("out", "s")), ("subrole", "r", "s")], 0)):
            with self.assertRaises(InvalidOntology) as caught:
                KnowledgeBase(wrong, mappings=None, tables=[])
            self.assertEqual(caught.exception.index, index)
        for wrong, table in (([], None), ({"t": None, "u": None}, "t"), ({"a": ("s", 1, []), "b": ("s", 4, [])}, "b"), ({1: ("s", 1, [])}, None)):
            with self.assertRaises(InvalidTables) as caught:
                KnowledgeBase([DISJOINT], mappings=None, tables=wrong)
            self.assertEqual(caught.exception.table, table)
        for wrong, index in ((None, None), ([T_A, U_B, None], 2), ([((("w", ("e",)),), ("concept", "a", ("p", "e")))], 0), ([T_A] * 9, None)):
            with self.assertRaises(InvalidMappings) as caught:
                KnowledgeBase([DISJOINT], mappings=wrong, tables=TABLES)
            self.assertEqual(caught.exception.index, index)
        self.assertRaises(InvalidMappings, KnowledgeBase, mappings=[T_A])

    def test_any_value(self):
        for value in STRANGE:
            if type(value) not in (list, tuple) or len(value):
                self.assertRaises(InvalidOntology, KnowledgeBase, value, mappings=value, tables=value)
                self.assertRaises(InvalidMappings, KnowledgeBase, mappings=value)
            if value is not None and (type(value) is not dict or len(value)):
                self.assertRaises(InvalidTables, KnowledgeBase, tables=value, mappings=value)

    def test_arguments_that_are_changed_afterwards(self):
        ontology, mappings, tables = [DISJOINT], [T_A, U_B], copy.deepcopy(TABLES)
        base = KnowledgeBase(ontology, mappings=mappings, tables=tables)
        before = everything(base)
        ontology.clear()
        mappings.pop()
        tables["t"][2].append(("bob",))
        del tables["u"]
        self.assertEqual(everything(base), before)

    def test_results_that_are_changed_afterwards(self):
        base = base_of(ontology=[INCLUDED])
        base.save_query("all", QUERY)
        base.apply_all([])
        before = copy.deepcopy((everything(base), base.facts(), base.answers(QUERY), base.saved_answers("all")))
        change = ("add_row", "t", ("bob",))
        for turn in range(2):
            results = [base.ontology(), base.mappings(), base.tables(), base.log(), base.facts(), base.answers(QUERY), base.saved_answers("all"), base.preview(change, QUERY)]
            again = [base.ontology(), base.mappings(), base.tables(), base.log(), base.facts(), base.answers(QUERY), base.saved_answers("all"), base.preview(change, QUERY)]
            self.assertEqual(results, again)
            self.assertEqual(len(set(aliases(results) + aliases(again))), len(aliases(results) + aliases(again)))
            for result in results[:7]:
                if isinstance(result, dict):
                    result["t"][2].clear()
                result.clear()
            self.assertEqual((everything(base), base.facts(), base.answers(QUERY), base.saved_answers("all")), before)

    def test_arguments_do_not_change(self):
        base = base_of()
        changes = [("add_row", "t", ("bob",)), ("add_axiom", INCLUDED)]
        base.apply_all(changes)
        base.apply_all(changes=[])
        self.assertEqual(changes, [("add_row", "t", ("bob",)), ("add_axiom", INCLUDED)])
        changes.clear()
        self.assertEqual(base.version(), 2)
        base.apply(change=("remove_axiom", INCLUDED))
        base.save_query(name="q", query=QUERY)
        self.assertEqual(base.saved_answers(name="q"), base.answers(query=QUERY, offline=()))
        self.assertEqual(base.preview(change=("remove_row", "t", ("ann",)), query=QUERY), ([], [(ANN,)]))


class Changes(unittest.TestCase):
    def changed(self, change, *, base=None, ontology=None, mappings=None, tables=None):
        base = base_of() if base is None else base
        before = parts(base)
        expected = tuple(old if new is None else new for old, new in zip(before, (ontology, mappings, tables)))
        self.assertEqual(slow_change(before, change), expected, "the test is wrong")
        number = base.version()
        self.assertEqual(base.apply(change), number + 1)
        self.assertEqual((parts(base), base.version()), (expected, number + 1))
        self.assertEqual(base.undo(), number)
        self.assertEqual(parts(base), before)
        base.apply(change)
        return base

    def invalid(self, *changes, base=None):
        for change in changes:
            base = base_of() if base is None else base
            before = everything(base)
            with self.assertRaises(InvalidChange, msg=repr(change)) as caught:
                base.apply(change)
            self.assertIsInstance(caught.exception, OntologyError)
            self.assertRaises(InvalidChange, base.preview, change, QUERY)
            self.assertEqual(everything(base), before)

    def test_axioms(self):
        base = self.changed(("add_axiom", DISJOINT), ontology=[DISJOINT])
        self.changed(("add_axiom", INCLUDED), base=base, ontology=[DISJOINT, INCLUDED])
        self.invalid(("add_axiom", DISJOINT), base=base)
        self.changed(("add_axiom", ("subrole", "r", "s")), base=base, ontology=[DISJOINT, INCLUDED, ("subrole", "r", "s")])
        self.invalid(("add_axiom", ("functional", ("out", "s"))), ("add_axiom", ("functional", ("in", "s"))), base=base)
        self.changed(("add_axiom", ("functional", ("out", "r"))), base=base, ontology=[DISJOINT, INCLUDED, ("subrole", "r", "s"), ("functional", ("out", "r"))])
        self.invalid(("add_axiom", ("subrole_inverse", "s", "r")), base=base)
        self.changed(("remove_axiom", INCLUDED), base=base, ontology=[DISJOINT, ("subrole", "r", "s"), ("functional", ("out", "r"))])
        self.invalid(("remove_axiom", INCLUDED), ("remove_axiom", ("disjoint", B, A)), base=base)
        self.invalid(("add_axiom", None), ("add_axiom", ("subclass", A, "c")), ("add_axiom", list(INCLUDED)), ("remove_axiom", list(DISJOINT)), ("remove_axiom", None), base=base)

    def test_sixteen_axioms(self):
        axioms = all_axioms(["a", "b", "c"], ["r"], ["subclass"])[:17]
        base = KnowledgeBase(axioms[:15])
        self.changed(("add_axiom", axioms[15]), base=base, ontology=axioms[:16])
        self.invalid(("add_axiom", axioms[16]), base=base)
        self.changed(("remove_axiom", axioms[0]), base=base, ontology=axioms[1:16])

    def test_mappings(self):
        base = base_of(mappings=[])
        self.changed(("add_mapping", T_A), base=base, mappings=[T_A])
        self.changed(("add_mapping", U_B), base=base, mappings=[T_A, U_B])
        self.invalid(("add_mapping", T_A), ("add_mapping", U_B), base=base)
        other = ((("t", ("f",)),), ("concept", "a", ("p", "f")))
        self.changed(("add_mapping", other), base=base, mappings=[T_A, U_B, other])
        self.invalid(("remove_mapping", ((("u", ("f",)),), ("concept", "b", ("p", "f")))), base=base)
        self.changed(("remove_mapping", T_A), base=base, mappings=[U_B, other])
        self.invalid(("remove_mapping", T_A), base=base)
        unknown, wide = ((("w", ("e",)),), ("concept", "a", ("p", "e"))), ((("t", ("e", "f")),), ("concept", "a", ("p", "e")))
        self.invalid(("add_mapping", unknown), ("add_mapping", wide), ("remove_mapping", unknown), ("add_mapping", None), ("remove_mapping", None),
                     ("add_mapping", list(T_A)), ("remove_mapping", list(U_B)), base=base)

    def test_eight_mappings(self):
        mappings = [((("t", ("e",)),), ("concept", name, ("p", "e"))) for name in "abcdefghi"]
        base = base_of(mappings=mappings[:7])
        self.changed(("add_mapping", mappings[7]), base=base, mappings=mappings[:8])
        self.invalid(("add_mapping", mappings[8]), base=base)

    def test_of_equal_mappings_the_first_is_removed(self):
        base = base_of(mappings=[T_A, U_B, T_A])
        self.invalid(("add_mapping", T_A), base=base)
        self.changed(("remove_mapping", T_A), base=base, mappings=[U_B, T_A])
        self.invalid(("add_mapping", T_A), base=base)
        self.changed(("remove_mapping", T_A), base=base, mappings=[U_B])
        self.invalid(("remove_mapping", T_A), base=base)

    def test_rows(self):
        base = self.changed(("add_row", "t", ("bob",)), tables={**TABLES, "t": ("hr", 1, [("ann",), ("bob",)])})
        self.changed(("add_row", "t", ("cid",)), base=base, tables={**TABLES, "t": ("hr", 1, [("ann",), ("bob",), ("cid",)])})
        self.invalid(("add_row", "t", ("bob",)), ("add_row", "w", ("bob",)), ("add_row", "t", ("a", "b")), ("add_row", "t", ()), ("add_row", "t", ["dan"]),
                     ("add_row", "t", ("Dan",)), ("add_row", "t", (1,)), ("add_row", "t", "dan"), ("add_row", "T", ("dan",)), ("add_row", None, ("dan",)), base=base)
        self.changed(("remove_row", "t", ("bob",)), base=base, tables={**TABLES, "t": ("hr", 1, [("ann",), ("cid",)])})
        self.invalid(("remove_row", "t", ("bob",)), ("remove_row", "u", ("cid",)), ("remove_row", "w", ("ann",)), ("remove_row", "t", "ann"), ("remove_row", "t", ["ann"]),
                     ("remove_row", ["t"], ("ann",)), ("remove_row", "t", 0), base=base)

    def test_twelve_rows(self):
        rows = [(str(number),) for number in range(13)]
        base = base_of(tables={**TABLES, "t": ("hr", 1, rows[:11])})
        self.changed(("add_row", "t", rows[11]), base=base, tables={**TABLES, "t": ("hr", 1, rows[:12])})
        self.invalid(("add_row", "t", rows[12]), base=base)
        self.changed(("remove_row", "t", rows[3]), base=base, tables={**TABLES, "t": ("hr", 1, rows[:3] + rows[4:12])})

    def test_tables(self):
        base = self.changed(("add_table", "v", "hr", 3), tables={**TABLES, "v": ("hr", 3, [])})
        self.invalid(("add_table", "v", "hr", 3), ("add_table", "t", "hr", 1), ("add_table", "v", "other", 1), ("add_table", "w", "hr", 0), ("add_table", "w", "hr", 4),
                     ("add_table", "w", "hr", True), ("add_table", "w", "Hr", 1), ("add_table", "w", None, 1), ("add_table", "W", "hr", 1), ("add_table", "", "hr", 1),
                     ("add_table", "w", "hr", "1"), ("add_table", [], "hr", 1), ("add_table", "w", "hr", []), ("add_table", "w", "hr", 1, []), ("add_table", "w", "hr"), base=base)
        self.changed(("add_table", "w", "new", 1), base=base, tables={**TABLES, "v": ("hr", 3, []), "w": ("new", 1, [])})
        self.invalid(("add_table", "x", "hr", 1), base=base)
        self.changed(("remove_table", "v"), base=base, tables={**TABLES, "w": ("new", 1, [])})
        self.invalid(("remove_table", "v"), ("remove_table", "x"), ("remove_table", ""), ("remove_table", None), ("remove_table", ["w"]), ("remove_table", "w", "new", 1), base=base)
        self.changed(("add_table", "x", "hr", 1), base=base, tables={**TABLES, "w": ("new", 1, []), "x": ("hr", 1, [])})

    def test_tables_that_are_in_use(self):
        tables = {"t": ("hr", 1, []), "u": ("hr", 1, [("ann",)]), "v": ("hr", 1, []), "w": ("hr", 1, [("ann",)])}
        both = ((("u", ("e",)), ("v", ("e",))), ("concept", "a", ("p", "e")))
        base = base_of(mappings=[both], tables=tables)
        self.invalid(("remove_table", "u"), ("remove_table", "v"), ("remove_table", "w"), base=base)
        self.changed(("remove_table", "t"), base=base, tables={name: tables[name] for name in "uvw"})
        self.changed(("remove_mapping", both), base=base, mappings=[])
        self.invalid(("remove_table", "u"), base=base)
        self.changed(("remove_table", "v"), base=base, tables={name: tables[name] for name in "uw"})
        self.changed(("remove_row", "u", ("ann",)), base=base, tables={"u": ("hr", 1, []), "w": ("hr", 1, [("ann",)])})
        self.changed(("remove_table", "u"), base=base, tables={"w": ("hr", 1, [("ann",)])})

    def test_any_value(self):
        self.invalid(*STRANGE)
        for tag in ("add_axiom", "add_mapping", "add_row", "add_table", "remove_axiom", "remove_mapping", "remove_row", "remove_table"):
            self.invalid(tag, (tag,), (tag, "t", "t", "t", "t"), *[(tag, value) for value in STRANGE], *[(tag, "t", value) for value in STRANGE if repr(value) != "('concept',)"],
                         *[(tag, value, ("ann",)) for value in STRANGE], *[(tag, "w", "s", value) for value in STRANGE if type(value) is not int or value not in (1, 2, 3)])
        self.invalid(("Add_axiom", DISJOINT), ("add", DISJOINT), ("undo",), ("add_rows", "t", ("bob",)), ["add_axiom", DISJOINT])
        self.invalid(("remove_axiom", AlwaysEqual()), ("remove_row", "t", AlwaysEqual()), ("remove_mapping", AlwaysEqual()), base=base_of(ontology=[DISJOINT]))

    def test_one_part_changed(self):
        base = base_of(ontology=[DISJOINT])
        valid = 0
        for change in (("add_axiom", INCLUDED), ("remove_axiom", DISJOINT), ("add_mapping", ((("t", ("e",)), ("u", (("value", "1"),))), ("role", "r", ("p", "e"), ("q", "e")))),
                       ("remove_mapping", U_B), ("add_row", "u", ("bob",)), ("remove_row", "t", ("ann",)), ("add_table", "w", "hr", 2)):
            self.assertIsNotNone(slow_change(parts(base), change))
            for wrong in with_parts_changed(change):
                expected = slow_change(parts(base), wrong)
                if expected is None:
                    self.invalid(wrong, base=base)
                else:
                    base.apply(wrong)
                    self.assertEqual(parts(base), expected)
                    base.undo()
                    valid += 1
        self.assertGreater(valid, 20)
        self.assertEqual(base.version(), 0)


def random_changes(rng, count):
    """Changes for random_tables, many of them invalid."""
    axioms = all_axioms(["a", "b"], ["r"], TAGS)
    found = []
    for number in range(count):
        kind = rng.choice(["axiom", "mapping", "row", "row", "table"])
        name = rng.choice("tuvw")
        details = {"axiom": (rng.choice(axioms),), "mapping": (random_mapping(rng, ["a"], ["r"], items=1),), "table": (name, "s", 1),
                   "row": (name, tuple(rng.choice("12x") for column in range("_tuv".find(name) if name != "w" else 1)))}[kind]
        tag = rng.choice(["add_", "add_", "remove_"]) + kind
        found.append((tag, name) if tag == "remove_table" else (tag, *details))
    return found


class Versions(unittest.TestCase):
    def test_numbers_and_undo(self):
        base = KnowledgeBase()
        changes = [("add_table", "t", "hr", 1), ("add_mapping", T_A), ("add_row", "t", ("ann",)), ("add_axiom", INCLUDED), ("remove_row", "t", ("ann",))]
        seen = [parts(base)]
        for number, change in enumerate(changes):
            self.assertEqual(base.version(), number)
            self.assertEqual(base.apply(change), number + 1)
            seen.append(parts(base))
            self.assertRaises(InvalidChange, base.apply, change)
        for number in reversed(range(5)):
            self.assertEqual(base.undo(), number)
            self.assertEqual((base.version(), parts(base)), (number, seen[number]))
        for turn in range(2):
            with self.assertRaises(InvalidChange):
                base.undo()
            self.assertEqual((base.version(), parts(base)), (0, seen[0]))
        self.assertEqual(base.apply(changes[0]), 1)
        self.assertEqual(base.log(), [])

    def test_apply_all(self):
        base = KnowledgeBase()
        changes = [("add_table", "t", "hr", 1), ("add_row", "t", ("ann",)), ("add_mapping", T_A)]
        self.assertEqual(base.apply_all(changes), 3)
        self.assertEqual((base.version(), base.log(), base.facts()), (3, ["begin", "end"], [("concept", "a", ANN)]))
        self.assertEqual(base.apply_all([]), 3)
        self.assertEqual((base.version(), base.log()), (3, ["begin", "end"] * 2))
        self.assertEqual(base.undo(), 2)
        self.assertEqual((base.mappings(), len(base), base.log()), ([], 1, ["begin", "end"] * 2))
        self.assertEqual(base.undo(), 1)
        self.assertEqual(base.undo(), 0)
        self.assertRaises(InvalidChange, base.undo)

    def test_apply_all_or_none(self):
        base = base_of()
        base.apply(("add_row", "t", ("bob",)))
        before = parts(base)
        good = [("add_axiom", DISJOINT), ("add_row", "t", ("cid",))]
        calls = 0
        for wrong in (good + [("add_axiom", DISJOINT)], [("remove_row", "t", ("cid",))] + good, [good[0], None, good[1]], good + good, [good], [None]):
            with self.assertRaises(InvalidChange):
                base.apply_all(wrong)
            calls += 1
            self.assertEqual((parts(base), base.version(), base.log()), (before, 1, ["begin", "end"] * calls))
        self.assertEqual(base.inconsistent_since(), None)
        self.assertEqual(base.apply_all([("remove_row", "t", ("bob",)), ("add_row", "t", ("bob",))]), 3)
        self.assertEqual(parts(base), before)

    def test_apply_all_with_any_value(self):
        base = base_of()
        values = [value for value in STRANGE if type(value) is not list or value] + [(("add_axiom", DISJOINT),), ("add_axiom", DISJOINT), {("add_axiom", DISJOINT): 1}]
        for number, value in enumerate(values):
            self.assertRaises(InvalidChange, base.apply_all, value)
            self.assertEqual(base.log(), ["begin", "end"] * (number + 1))
        self.assertEqual((parts(base), base.version()), (parts(base_of()), 0))

    def test_other_calls_leave_the_log(self):
        base = base_of()
        base.apply_all([("add_axiom", INCLUDED)])
        base.apply(("add_axiom", ("subclass", A, A)))
        base.undo()
        self.assertRaises(InvalidChange, base.apply, None)
        base.save_query("q", QUERY)
        base.preview(("add_row", "t", ("bob",)), QUERY)
        base.clone().apply_all([])
        self.assertEqual(base.log(), ["begin", "end"])

    def test_clone(self):
        base = base_of()
        base.apply(("add_axiom", DISJOINT))
        base.apply_all([("add_row", "t", ("bob",))])
        base.save_query("all", OTHER)
        other = base.clone()
        self.assertTrue(other == base)
        self.assertEqual((other.version(), other.log(), parts(other)), (2, [], parts(base)))
        self.assertEqual(other.inconsistent_since(), 1)
        other.undo()
        other.undo()
        self.assertRaises(InvalidChange, other.undo)
        self.assertEqual((other.saved_answers("all"), other.version(), base.version()), ([(ANN,)], 0, 2))
        other.save_query("new", QUERY)
        other.save_query("all", QUERY)
        self.assertRaises(UnknownName, base.saved_answers, "new")
        self.assertEqual(base.apply(("remove_axiom", DISJOINT)), 3)
        self.assertEqual(base.saved_answers("all"), [(ANN,)])
        other.apply(("remove_row", "u", ("ann",)))
        self.assertEqual((other.saved_answers("all"), base.saved_answers("all"), other.ontology(), base.log()), ([(ANN,)], [(ANN,)], [], ["begin", "end"]))
        base.undo()
        base.undo()
        self.assertEqual(base.undo(), 0)
        self.assertEqual(base.tables(), TABLES)

    def test_clones_do_not_share_lists(self):
        base = base_of()
        other = base.clone()
        for turn in range(2):
            base.tables()["t"][2].append(("bob",))
            other.tables()["t"][2].append(("bob",))
            other.apply(("add_row", "t", (f"r{turn}",)))
        self.assertEqual((base.tables(), len(base), len(other)), (TABLES, 2, 4))

    def test_equality(self):
        base = base_of(ontology=[DISJOINT])
        self.assertTrue(base == base)
        self.assertTrue(base == base_of(ontology=(DISJOINT,)))
        self.assertFalse(base != base_of(ontology=(DISJOINT,)))
        for other in (base_of(), base_of(ontology=[INCLUDED]), base_of(ontology=[DISJOINT], mappings=[T_A]), base_of(ontology=[DISJOINT], tables={**TABLES, "v": ("s", 1, [])}),
                      base_of(ontology=[DISJOINT], tables={**TABLES, "t": ("other", 1, [("ann",)])}), base_of(ontology=[DISJOINT], tables={**TABLES, "t": ("hr", 1, [])})):
            self.assertFalse(base == other)
            self.assertTrue(base != other)
        for other in STRANGE:
            if not isinstance(other, AlwaysEqual):
                self.assertIs(base.__eq__(other), False)
        for other in (None, 0, 2, [], ([DISJOINT], [T_A, U_B], TABLES), "base", TABLES):
            self.assertFalse(base == other)
            self.assertTrue(other != base)
        self.assertFalse(KnowledgeBase() == 0)

    def test_equality_ignores_versions_logs_and_saved_queries(self):
        base, other = base_of(), base_of()
        base.save_query("q", QUERY)
        base.apply_all([("add_axiom", DISJOINT), ("remove_axiom", DISJOINT)])
        self.assertTrue(base == other)
        base.apply(("remove_row", "t", ("ann",)))
        self.assertFalse(base == other)
        other.apply(("remove_row", "t", ("ann",)))
        self.assertTrue(base == other)
        reordered = base_of(tables={"u": TABLES["u"], "t": TABLES["t"]})
        self.assertTrue(reordered == base_of())

    def test_length(self):
        base = KnowledgeBase()
        self.assertEqual(len(base), 0)
        base.apply_all([("add_table", "t", "hr", 1), ("add_table", "u", "hr", 2)])
        self.assertEqual(len(base), 0)
        base.apply_all([("add_row", "t", ("a",)), ("add_row", "u", ("a", "b")), ("add_row", "u", ("b", "b"))])
        self.assertEqual(len(base), 3)
        base.apply(("remove_row", "u", ("a", "b")))
        self.assertEqual(len(base), 2)
        base.undo()
        self.assertEqual(len(base), 3)

    def test_facts(self):
        base = base_of(tables={"t": ("hr", 1, [("bob",), ("ann",)]), "u": ("front", 1, [("ann",)])})
        self.assertEqual(base.facts(), [("concept", "a", ANN), ("concept", "a", BOB), ("concept", "b", ANN)])
        base.apply(("remove_mapping", T_A))
        self.assertEqual(base.facts(), [("concept", "b", ANN)])

    def test_inconsistent_since(self):
        base = base_of()
        self.assertIsNone(base.inconsistent_since())
        base.apply(("add_axiom", DISJOINT))
        self.assertEqual(base.inconsistent_since(), 1)
        base.apply(("add_row", "t", ("bob",)))
        self.assertEqual(base.inconsistent_since(), 1)
        base.apply(("remove_row", "u", ("ann",)))
        self.assertIsNone(base.inconsistent_since())
        base.apply(("add_row", "u", ("bob",)))
        base.apply(("add_row", "u", ("cid",)))
        self.assertEqual(base.inconsistent_since(), 4)
        base.undo()
        self.assertEqual(base.inconsistent_since(), 4)
        base.undo()
        self.assertIsNone(base.inconsistent_since())
        base.undo()
        self.assertEqual(base.inconsistent_since(), 1)
        base.undo()
        base.undo()
        self.assertIsNone(base.inconsistent_since())

    def test_inconsistent_from_the_start(self):
        base = base_of(ontology=[DISJOINT])
        self.assertEqual(base.inconsistent_since(), 0)
        base.apply(("add_row", "t", ("bob",)))
        self.assertEqual(base.inconsistent_since(), 0)
        base.apply_all([("remove_axiom", DISJOINT), ("add_axiom", DISJOINT)])
        self.assertEqual(base.inconsistent_since(), 3)
        self.assertEqual(base.clone().inconsistent_since(), 3)

    def test_inconsistent_since_after_a_failed_apply_all(self):
        base = base_of()
        self.assertRaises(InvalidChange, base.apply_all, [("add_axiom", DISJOINT), None])
        self.assertIsNone(base.inconsistent_since())
        base.apply(("add_axiom", DISJOINT))
        self.assertRaises(InvalidChange, base.apply_all, [("remove_axiom", DISJOINT), ("add_axiom", DISJOINT), None])
        self.assertEqual(base.inconsistent_since(), 1)

    def test_random_walks(self):
        """Of point 3, (e): changes, undo, answers and the first inconsistent version, against a slow computation."""
        rng = random.Random(171)
        seen = {"valid": 0, "invalid": 0, "undone": 0, "inconsistent": 0, "since": 0}
        for walk in range(40):
            tables = {name: (source, count, rows[:3]) for name, (source, count, rows) in random_tables(rng).items()}
            mappings = [random_mapping(rng, ["a"], ["r"], items=1) for number in range(2)]
            ontology = random_ontology(rng, ["a", "b"], ["r"], positive=1, negative=1)
            base = KnowledgeBase(ontology, mappings=mappings, tables=tables)
            states = [(list(ontology), mappings, tables)]
            saved = random_query(rng, ["a", "b"], ["r"], [("p", "1")], most=2)
            base.save_query("saved", saved)
            for change in random_changes(rng, 12):
                if rng.randrange(5) == 0 and len(states) > 1:
                    states.pop()
                    base.undo()
                    seen["undone"] += 1
                after = slow_change(states[-1], change)
                if after is None:
                    self.assertRaises(InvalidChange, base.apply, change)
                    seen["invalid"] += 1
                else:
                    states.append(after)
                    base.apply(change)
                    seen["valid"] += 1
                self.assertEqual((parts(base), base.version()), (states[-1], len(states) - 1))
                expected = slow_base_answers(*states[-1], saved)
                self.assertEqual(base.saved_answers("saved"), expected)
                self.check_answers(base, saved, expected)
            consistent = [is_consistent(state[0], slow_mapped_facts(state[1], state[2])) for state in states]
            since = None if consistent[-1] else len(list(itertools.dropwhile(lambda one: not one, reversed(consistent))))
            self.assertEqual(base.inconsistent_since(), since)
            seen["inconsistent"] += since is not None
            seen["since"] += since not in (None, 0)
        self.assertTrue(all(count >= 5 for count in seen.values()), seen)

    def check_answers(self, base, query, expected):
        if expected is not None:
            self.assertEqual(base.answers(query), expected)
            return
        with self.assertRaises(Inconsistent) as caught:
            base.answers(query)
        self.assertTrue(is_conflict(base.ontology(), base.facts(), caught.exception.certificate))


class SavedQueries(unittest.TestCase):
    def test_survive_changes_and_undo(self):
        base = base_of()
        self.assertIsNone(base.save_query("all", QUERY))
        self.assertEqual(base.saved_answers("all"), [(ANN,)])
        base.apply(("add_row", "t", ("bob",)))
        self.assertEqual(base.saved_answers("all"), [(ANN,), (BOB,)])
        base.save_query("more", OTHER)
        base.undo()
        self.assertEqual((base.saved_answers("all"), base.saved_answers("more")), ([(ANN,)], [(ANN,)]))
        base.apply_all([("remove_mapping", T_A), ("remove_row", "t", ("ann",)), ("remove_table", "t")])
        self.assertEqual(base.saved_answers("all"), [])
        base.undo()
        base.undo()
        base.undo()
        self.assertEqual(base.saved_answers("all"), base.answers(QUERY))

    def test_replaced(self):
        base = base_of(tables={"t": ("hr", 1, [("ann",)]), "u": ("hr", 1, [("bob",)])})
        base.save_query("all", QUERY)
        base.save_query("all", OTHER)
        self.assertEqual(base.saved_answers("all"), [(BOB,)])
        self.assertRaises(InvalidQuery, base.save_query, "all", None)
        self.assertEqual(base.saved_answers("all"), [(BOB,)])

    def test_inconsistent_data(self):
        base = base_of(ontology=[DISJOINT])
        base.save_query("all", QUERY)
        self.assertIsNone(base.saved_answers("all"))
        base.apply(("remove_row", "u", ("ann",)))
        self.assertEqual(base.saved_answers("all"), [(ANN,)])
        base.undo()
        self.assertIsNone(base.saved_answers("all"))

    def test_names(self):
        base = base_of()
        base.save_query("all", QUERY)
        for name in STRANGE + ["A", "a1", "abcdefghi", "all ", "a.b", ("all",), ["all"], "All"]:
            if not is_word(name):
                for query in (QUERY, None):
                    with self.assertRaises(UnknownName) as caught:
                        base.save_query(name, query)
                    self.assertIsInstance(caught.exception, LookupError)
                    self.assertTrue(caught.exception.name is name or repr(caught.exception.name) == repr(name))
            if type(name) is not str or name != "all":
                with self.assertRaises(UnknownName) as caught:
                    base.saved_answers(name)
                self.assertEqual(repr(caught.exception.name), repr(name))
        with self.assertRaises(UnknownName) as caught:
            base.saved_answers("other")
        self.assertEqual(caught.exception.name, "other")
        self.assertEqual(base.saved_answers("all"), [(ANN,)])

    def test_queries(self):
        base = base_of()
        for query in STRANGE + list(with_parts_changed((("x",), (("role", "r", "x", ("p", "1")),)))):
            if is_slow_query(query):
                base.save_query("good", query)
                self.assertEqual(base.saved_answers("good"), base.answers(query))
            else:
                self.assertRaises(InvalidQuery, base.save_query, "q", query)
                self.assertRaises(InvalidQuery, base.answers, query)
                self.assertRaises(InvalidQuery, base.answers, query, offline=("hr",))
        self.assertRaises(UnknownName, base.saved_answers, "q")

    def test_invalid_queries_over_inconsistent_data(self):
        base = base_of(ontology=[DISJOINT])
        self.assertRaises(InvalidQuery, base.answers, None)
        self.assertRaises(InvalidQuery, base.save_query, "q", (("x",), ()))
        self.assertRaises(Inconsistent, base.answers, QUERY)


class Preview(unittest.TestCase):
    def previewed(self, base, change, query, added, removed):
        before = everything(base)
        self.assertEqual(base.preview(change, query), (added, removed))
        self.assertEqual(everything(base), before)
        now = base.answers(query)
        base.apply(change)
        after = base.answers(query)
        base.undo()
        self.assertEqual((added, removed), ([answer for answer in after if answer not in now], [answer for answer in now if answer not in after]))

    def test_each_kind_of_change(self):
        base = base_of(ontology=[INCLUDED])
        of_c = (("x",), (("concept", "c", "x"),))
        self.previewed(base, ("add_row", "t", ("bob",)), of_c, [(BOB,)], [])
        self.previewed(base, ("remove_row", "t", ("ann",)), of_c, [], [(ANN,)])
        self.previewed(base, ("add_axiom", ("subclass", B, A)), QUERY, [], [])
        self.previewed(base, ("add_axiom", ("subclass", B, ("concept", "d"))), (("x",), (("concept", "d", "x"),)), [(ANN,)], [])
        self.previewed(base, ("remove_axiom", INCLUDED), of_c, [], [(ANN,)])
        self.previewed(base, ("add_mapping", ((("u", ("e",)),), ("concept", "a", ("q", "e")))), QUERY, [(("q", "ann"),)], [])
        self.previewed(base, ("remove_mapping", T_A), QUERY, [], [(ANN,)])
        self.previewed(base, ("add_table", "v", "hr", 1), QUERY, [], [])
        base.apply(("add_table", "v", "hr", 1))
        self.previewed(base, ("remove_table", "v"), QUERY, [], [])

    def test_several_answers_sorted(self):
        tables = {"t": ("hr", 1, [("c",), ("a",), ("b",)]), "u": ("hr", 1, [])}
        base = base_of(tables=tables, mappings=[])
        self.previewed(base, ("add_mapping", T_A), QUERY, [(("p", value),) for value in "abc"], [])
        self.previewed(base_of(tables=tables), ("remove_mapping", T_A), QUERY, [], [(("p", value),) for value in "abc"])
        self.previewed(base, ("add_mapping", T_A), ((), QUERY[1]), [()], [])

    def test_inconsistent_data(self):
        base = base_of()
        self.assertIsNone(base.preview(("add_axiom", DISJOINT), QUERY))
        base.apply(("add_axiom", DISJOINT))
        self.assertIsNone(base.preview(("remove_axiom", DISJOINT), QUERY))
        self.assertIsNone(base.preview(("add_row", "t", ("bob",)), QUERY))
        self.assertEqual(base.version(), 1)

    def test_errors_in_their_order(self):
        for base in (base_of(), base_of(ontology=[DISJOINT])):
            before = everything(base)
            for change in (None, ("add_row", "t", ("ann",)), ("remove_table", "t"), [], ("add_axiom", ("subclass", A, None))):
                for query in (QUERY, None):
                    self.assertRaises(InvalidChange, base.preview, change, query)
            for query in STRANGE + [(("x",), ()), (("y",), QUERY[1]), list(QUERY)]:
                self.assertRaises(InvalidQuery, base.preview, ("add_row", "t", ("bob",)), query)
            self.assertEqual(everything(base), before)

    def test_random(self):
        """Of point 3, (e)."""
        rng = random.Random(172)
        added = removed = none = 0
        while added < 15 or removed < 15 or none < 15:
            tables = random_tables(rng)
            mappings = [random_mapping(rng, ["a"], ["r"], items=1) for number in range(2)]
            ontology = random_ontology(rng, ["a", "b"], ["r"], positive=2, negative=rng.randrange(2))
            query = random_query(rng, ["a", "b"], ["r"], [("p", "1")], most=2)
            base = KnowledgeBase(ontology, mappings=mappings, tables=tables)
            state = (ontology, mappings, tables)
            for change in random_changes(rng, 8):
                after = slow_change(state, change)
                if after is None:
                    self.assertRaises(InvalidChange, base.preview, change, query)
                    continue
                one, other = slow_base_answers(*state, query), slow_base_answers(*after, query)
                found = base.preview(change, query)
                if one is None or other is None:
                    self.assertIsNone(found)
                    none += 1
                else:
                    self.assertEqual(found, (sorted(set(other) - set(one)), sorted(set(one) - set(other))))
                    added += found[0] != []
                    removed += found[1] != []
            self.assertEqual((parts(base), base.version()), (state, 0))


class Offline(unittest.TestCase):
    tables = {"t": ("hr", 1, [("ann",), ("bob",)]), "u": ("front", 1, [("ann",), ("cid",)]), "v": ("hr", 1, [("dan",)]), "w": ("back", 1, [])}
    mappings = [T_A, ((("u", ("e",)),), ("concept", "a", ("p", "e"))), ((("v", ("e",)),), ("concept", "a", ("p", "e")))]

    def names(self, *offline):
        base = KnowledgeBase(mappings=self.mappings, tables=self.tables)
        before = everything(base)
        found = [value for ((word, value),) in base.answers(QUERY, offline=offline)]
        self.assertEqual(everything(base), before)
        return found

    def test_sources(self):
        self.assertEqual(self.names(), ["ann", "bob", "cid", "dan"])
        self.assertEqual(self.names("hr"), ["ann", "cid"])
        self.assertEqual(self.names("front"), ["ann", "bob", "dan"])
        self.assertEqual(self.names("back"), ["ann", "bob", "cid", "dan"])
        self.assertEqual(self.names("front", "back"), ["ann", "bob", "dan"])
        self.assertEqual(self.names("front", "hr"), [])
        self.assertEqual(self.names("back", "front", "hr", "hr"), [])

    def test_unknown_sources(self):
        self.assertEqual(self.names("other"), ["ann", "bob", "cid", "dan"])
        self.assertEqual(self.names("t", "u"), ["ann", "bob", "cid", "dan"])
        self.assertEqual(self.names("other", "hr", "h"), ["ann", "cid"])

    def test_by_name_only(self):
        self.assertEqual(str(inspect.signature(KnowledgeBase.answers)), "(self, query, *, offline=())")
        self.assertRaises(TypeError, base_of().answers, QUERY, ("hr",))

    def test_inconsistent_only_if_the_remaining_rows_are(self):
        base = base_of(ontology=[DISJOINT], tables={**TABLES, "v": ("other", 1, [("ann",)])})
        self.assertRaises(Inconsistent, base.answers, QUERY)
        self.assertRaises(Inconsistent, base.answers, QUERY, offline=("other", "unknown"))
        self.assertEqual(base.answers(QUERY, offline=("front",)), [(ANN,)])
        self.assertEqual(base.answers(QUERY, offline=("hr",)), [])
        self.assertEqual(base.answers(QUERY, offline=("hr", "front")), [])
        with self.assertRaises(Inconsistent) as caught:
            base.answers(QUERY, offline=("other",))
        self.assertTrue(is_conflict(base.ontology(), base.facts(), caught.exception.certificate))

    def test_whatever_rows_the_offline_sources_have(self):
        """Of point 3, (g)."""
        rng = random.Random(173)
        stayed = 0
        while stayed < 60:
            ontology = random_ontology(rng, ["a", "b"], ["r"], positive=3, negative=rng.randrange(2))
            mappings = [random_mapping(rng, ["a", "b"], ["r"]) for number in range(3)]
            query = random_query(rng, ["a", "b"], ["r"], [("p", "1")], most=2)

            def tables_with(own, other):
                return {"t": ("hr", *own["t"][1:]), "u": ("hr", *own["u"][1:]), "v": ("front", *other["v"][1:])}
            own = random_tables(rng)
            try:
                certain = KnowledgeBase(ontology, mappings=mappings, tables=tables_with(own, random_tables(rng))).answers(query, offline=("front",))
            except Inconsistent:
                continue
            without = {**own, "v": ("front", 3, [])}
            self.assertEqual(certain, slow_base_answers(ontology, mappings, without, query))
            for turn in range(3):
                base = KnowledgeBase(ontology, mappings=mappings, tables=tables_with(own, random_tables(rng)))
                if base.inconsistent_since() is None:
                    self.assertLessEqual(set(certain), set(base.answers(query)))
                    stayed += certain != []


if __name__ == "__main__":
    unittest.main()
