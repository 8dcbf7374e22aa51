import copy
import random
import re
import unittest

from factsandfar.axioms import check_ontology
from factsandfar.errors import InvalidOntology, OntologyError, ParseError
from factsandfar.text_format import (
    format_facts, format_mappings, format_ontology, format_query, format_tables, parse_facts, parse_mappings, parse_ontology, parse_query,
    parse_tables)
from oracles import STRANGE, aliases, is_slow_query, random_facts, random_mapping, random_ontology, random_query, random_tables

WORD, VALUE = "[a-z]{1,8}", "[a-z0-9]{1,8}"
CONCEPT, DIRECTION = f"(?:concept|out|in) {WORD}", f"(?:out|in) {WORD}"
AXIOM = re.compile(f"(?:(?:subclass|disjoint) {CONCEPT} {CONCEPT}|(?:subrole|subrole_inverse|disjoint_roles|disjoint_inverse) {WORD} {WORD}|functional {DIRECTION})")
NAMED, TERM = rf"{WORD}\.{VALUE}", rf"{WORD}(?:\.{VALUE})?"
FACT = re.compile(rf"(?:concept {WORD} {NAMED}|role {WORD} {NAMED} {NAMED})")
PATTERN = f"(?:concept {WORD} {TERM}|role {WORD} {TERM} {TERM})"
QUERY = re.compile(rf"ask(?: {TERM})* \| {PATTERN}(?: ; {PATTERN})*")
TEMPLATE, COLUMN = rf"{WORD}\.{WORD}", f"(?:{WORD}|={VALUE})"
ITEM = f"{WORD}(?: {COLUMN}){{1,3}}"
MAPPING = re.compile(rf"map (?:concept {WORD} {TEMPLATE}|role {WORD} {TEMPLATE} {TEMPLATE}) \| {ITEM}(?: ; {ITEM})?")
TABLE, ROW = re.compile(f"table ({WORD}) ({WORD}) ([123])"), re.compile(f"row((?: {VALUE}){{1,3}})")


def slow_term(text):
    return tuple(text.split(".")) if "." in text else text


def slow_fact(text):
    tag, name, *terms = text.split()
    return (tag, name, *map(slow_term, terms))


def slow_axiom(line):
    if not AXIOM.fullmatch(line):
        return None
    tag, *words = line.split()
    if tag == "functional":
        return (tag, tuple(words))
    return (tag, tuple(words[:2]), tuple(words[2:])) if tag in ("subclass", "disjoint") else (tag, *words)


def slow_mapping(line):
    if not MAPPING.fullmatch(line):
        return None
    head, items = line[4:].split(" | ")
    body = [item.split() for item in items.split(" ; ")]
    variables = [term for table, *terms in body for term in terms if term[0] != "="]
    if not all(template.split(".")[1] in variables for template in head.split()[2:]):
        return None
    if len(body) == 2 and body[0][0] == body[1][0] and len(body[0]) != len(body[1]):
        return None
    return tuple((table, tuple(("value", term[1:]) if term[0] == "=" else term for term in terms)) for table, *terms in body), slow_fact(head)


def slow_query(line):
    if not QUERY.fullmatch(line):
        return None
    terms, patterns = line[3:].split(" | ")
    return tuple(map(slow_term, terms.split())), tuple(map(slow_fact, patterns.split(" ; ")))


def slow_lines(text, item_of):
    """Items, or the index of the first line that is not of its form."""
    items = [item_of(line) for line in text.split("\n")] if text else []
    return items.index(None) if None in items else items


def slow_ontology(text):
    found = slow_lines(text, slow_axiom)
    if isinstance(found, list):
        try:
            check_ontology(found)
        except InvalidOntology:
            return None
    return found


def slow_facts(text):
    found = slow_lines(text, lambda line: slow_fact(line) if FACT.fullmatch(line) else None)
    return None if isinstance(found, list) and len(set(found)) < len(found) else found


def slow_mappings(text):
    found = slow_lines(text, slow_mapping)
    return None if isinstance(found, list) and len(found) > 8 else found


def slow_single_query(text):
    lines = text.split("\n")
    query = slow_query(lines[0])
    if query is None or len(lines) > 1:
        return 0 if query is None else 1
    return query if is_slow_query(query) else None


def slow_tables(text):
    tables, rows = {}, None
    for number, line in enumerate(text.split("\n") if text else []):
        table, row = TABLE.fullmatch(line), ROW.fullmatch(line)
        if table and table[1] not in tables:
            rows = []
            tables[table[1]] = (table[2], int(table[3]), rows)
            count = int(table[3])
        elif row and rows is not None and len(row[1].split()) == count and tuple(row[1].split()) not in rows and len(rows) < 12:
            rows.append(tuple(row[1].split()))
        else:
            return number
    return None if len(tables) > 4 else tables


# What the slow functions return: the value, the index of a line, or None where all lines have their form.
PARSERS = {parse_ontology: slow_ontology, parse_facts: slow_facts, parse_query: slow_single_query, parse_tables: slow_tables, parse_mappings: slow_mappings}


class Format(unittest.TestCase):
    def test_ontology(self):
        axioms = [("subclass", ("concept", "a"), ("out", "r")), ("disjoint", ("in", "r"), ("concept", "b")), ("subrole", "r", "s"), ("subrole_inverse", "r", "s"),
                  ("disjoint_roles", "r", "s"), ("disjoint_inverse", "r", "s"), ("functional", ("out", "r")), ("functional", ("in", "r"))]
        expected = ("subclass concept a out r\ndisjoint in r concept b\nsubrole r s\nsubrole_inverse r s\ndisjoint_roles r s\ndisjoint_inverse r s\n"
                    "functional out r\nfunctional in r")
        self.assertEqual(format_ontology(axioms), expected)
        self.assertEqual(format_ontology(tuple(axioms)), expected)
        self.assertEqual(parse_ontology(expected), axioms)

    def test_facts(self):
        facts = [("concept", "a", ("p", "1")), ("role", "r", ("p", "1"), ("emp", "ann2"))]
        self.assertEqual(format_facts(facts), "concept a p.1\nrole r p.1 emp.ann2")
        self.assertEqual(format_facts(tuple(facts)), "concept a p.1\nrole r p.1 emp.ann2")

    def test_query(self):
        self.assertEqual(format_query((("x", ("p", "1"), "x"), (("concept", "a", "x"),))), "ask x p.1 x | concept a x")
        self.assertEqual(format_query(((), (("concept", "a", ("p", "1")), ("role", "r", "x", "y")))), "ask | concept a p.1 ; role r x y")

    def test_tables(self):
        tables = {"u": ("hr", 2, [("b", "1"), ("a", "2")]), "t": ("front", 1, []), "a": ("x", 3, [("1", "1", "1")])}
        expected = "table a x 3\nrow 1 1 1\ntable t front 1\ntable u hr 2\nrow b 1\nrow a 2"
        self.assertEqual(format_tables(tables), expected)
        self.assertEqual(format_tables({name: tables[name] for name in "atu"}), expected)
        self.assertEqual(parse_tables(expected), tables)

    def test_mappings(self):
        mappings = [((("t", ("e",)),), ("concept", "a", ("p", "e"))),
                    ((("u", ("e", ("value", "x1"))), ("t", ("f",))), ("role", "r", ("p", "e"), ("q", "f")))]
        expected = "map concept a p.e | t e\nmap role r p.e q.f | u e =x1 ; t f"
        self.assertEqual(format_mappings(mappings), expected)
        self.assertEqual(format_mappings(tuple(mappings)), expected)

    def test_empty(self):
        for function, empty in ((format_ontology, []), (format_ontology, ()), (format_facts, []), (format_facts, ()), (format_tables, {}), (format_mappings, []), (format_mappings, ())):
            self.assertEqual(function(empty), "")
        self.assertEqual((parse_ontology(""), parse_facts(""), parse_tables(""), parse_mappings("")), ([], [], {}, []))

    def test_parsed_back(self):
        """Of point 3, (i)."""
        rng = random.Random(211)
        for turn in range(200):
            ontology = random_ontology(rng, ["a", "concept"], ["r", "in"], positive=rng.randrange(5), negative=rng.randrange(4))
            self.back(format_ontology, parse_ontology, ontology)
            self.back(format_facts, parse_facts, random_facts(rng, ["a", "role"], ["r", "concept"], [("p", "1"), ("role", "abcdefgh"), ("p", "12345678")], rng.randrange(8)))
            query = random_query(rng, ["a", "ask"], ["r", "row"], [("p", "1"), ("q", "abc")])
            self.back(format_query, parse_query, query)
            self.back(format_tables, parse_tables, random_tables(rng))
            self.back(format_mappings, parse_mappings, [random_mapping(rng, ["a", "map"], ["r"]) for number in range(rng.randrange(9))])

    def back(self, function, parse, value):
        text = function(value)
        self.assertIs(type(text), str)
        self.assertFalse(text.endswith("\n"))
        for again in (parse(text), parse(text=text)):
            self.assertEqual(again, value)
            self.assertIs(type(again), type(value))
            self.assertEqual(PARSERS[parse](text), value, "the test is wrong")
            self.assertFalse(set(aliases(again)) & set(aliases(value)))

    def test_unchanged_arguments_and_names(self):
        ontology, facts, query = [("subrole", "r", "s")], [("concept", "a", ("p", "1"))], ((), (("concept", "a", "x"),))
        tables, mappings = {"u": ("s", 1, [("b",), ("a",)]), "t": ("s", 1, [])}, [((("t", ("e",)),), ("concept", "a", ("p", "e")))]
        before = copy.deepcopy((ontology, facts, query, tables, mappings))
        self.assertEqual(format_ontology(ontology=ontology), format_ontology(ontology))
        self.assertEqual(format_facts(facts=facts), format_facts(facts))
        self.assertEqual(format_query(query=query), format_query(query))
        self.assertEqual(format_tables(tables=tables), format_tables(tables))
        self.assertEqual(format_mappings(mappings=mappings), format_mappings(mappings))
        self.assertEqual((ontology, facts, query, tables, mappings), before)
        first, second = parse_tables(format_tables(tables)), parse_tables(format_tables(tables))
        self.assertEqual(len(set(aliases(first) + aliases(second))), 6)


class Parse(unittest.TestCase):
    def wrong(self, parse, text, line):
        self.assertEqual(PARSERS[parse](text), line, "the test is wrong")
        self.raises(parse, text, line)

    def raises(self, parse, value, line):
        with self.assertRaises(ParseError, msg=repr(value)) as caught:
            parse(value)
        self.assertIsInstance(caught.exception, OntologyError)
        self.assertEqual((caught.exception.line, type(caught.exception.line)), (line, type(line)), value)

    def test_any_value(self):
        for parse in PARSERS:
            for value in STRANGE + [b"subrole r s", ["subrole r s"], ("ask", "|")]:
                if type(value) is not str:
                    self.raises(parse, value, 0)
                elif value:
                    self.wrong(parse, value, 0)
        self.wrong(parse_query, "", 0)

    def blanks(self, parse, *lines):
        """Blanks and line feeds in wrong places of a text that is right."""
        text = "\n".join(lines)
        self.assertEqual(parse(text), PARSERS[parse](text))
        for number, line in enumerate(lines):
            for spoiled in (line.replace(" ", "  ", 1), " " + line, line + " ", "", line.replace(" ", "\t", 1), line.upper(), line + " Extra", "  ", line.rpartition(" ")[0]):
                changed = "\n".join([*lines[:number], spoiled, *lines[number + 1:]])
                if changed != "":
                    self.wrong(parse, changed, number)
        for extra, number in ((text + "\n", len(lines)), ("\n" + text, 0), (text + "\n\n", len(lines)), ("\n", 0), ("\n\n", 0), (" ", 0)):
            self.wrong(parse, extra, number)

    def test_blanks_and_line_feeds(self):
        self.blanks(parse_ontology, "subclass concept a out r", "subrole r s", "functional in q")
        self.blanks(parse_facts, "concept a p.1", "role r p.1 p.2")
        self.blanks(parse_tables, "table t s 1", "row a", "table u s 2", "row a b")
        self.blanks(parse_mappings, "map concept a p.e | t e", "map role r p.e p.f | t e ; t f", "map concept a p.f | u =1 f")
        for line in ("ask x | concept a x ; role r x y", "ask | role r p.1 x"):
            self.blanks(parse_query, line)

    def test_axiom_lines(self):
        for line in ("subclass concept a", "subclass a b", "subclass concept a concept", "subclass concept a role b", "disjoint out r in", "disjoint r s", "subrole r", "subrole r s q",
                     "subrole out r out s", "subrole-inverse r s", "subroleinverse r s", "functional r", "functional concept a", "functional out r in r", "functional out", "functional",
                     "subclass concept abcdefghi concept b", "subrole r1 s", "subrole r A", "Subrole r s", "concept a p.1", "ask | concept a x", "subclass", "subclass out r out s out q",
                     "subclass concept a concept b concept c", "subrole r s.", "disjoint_inverse r", "disjoint_roles r s t"):
            self.wrong(parse_ontology, line, 0)
            self.wrong(parse_ontology, f"subrole q q\n{line}\nsubrole q q", 1)
        self.assertEqual(parse_ontology("subclass concept abcdefgh in concept"), [("subclass", ("concept", "abcdefgh"), ("in", "concept"))])

    def test_no_ontology(self):
        self.wrong(parse_ontology, "subrole r s\nsubrole r s", None)
        self.wrong(parse_ontology, "subrole r s\nfunctional out s", None)
        self.wrong(parse_ontology, "functional in s\nsubrole_inverse r s", None)
        lines = [f"subclass concept a concept {letter}" for letter in "abcdefghijklmnopq"]
        self.assertEqual(len(parse_ontology("\n".join(lines[:16]))), 16)
        self.wrong(parse_ontology, "\n".join(lines), None)
        self.wrong(parse_ontology, "\n".join(lines + ["subclass"]), 17)
        self.wrong(parse_ontology, "subrole r s\nsubrole r s\nsubrole r", 2)

    def test_fact_lines(self):
        for line in ("concept a x", "concept a p", "concept a p.", "concept a .1", "concept a p.1.2", "concept a p.A", "concept a P.1", "concept a p1.1", "concept a p.1 p.2", "role r p.1",
                     "role r p.1 p.2 p.3", "role r p.1 x", "role r x p.1", "concept p.1", "concept", "role", "Concept a p.1", "concept a1 p.1", "concept a p.123456789", "concept a abcdefghi.1",
                     "out r p.1", "role r p.1,p.2", "concept a p .1", "map concept a p.e | t e", "concept a p:1", "concept abcdefghi p.1"):
            self.wrong(parse_facts, line, 0)
            self.wrong(parse_facts, f"concept a p.1\nconcept a p.1\n{line}", 2)
        self.assertEqual(parse_facts("role concept a.a a.1\nconcept role a.a"), [("role", "concept", ("a", "a"), ("a", "1")), ("concept", "role", ("a", "a"))])

    def test_no_facts(self):
        self.wrong(parse_facts, "concept a p.1\nconcept b p.1\nconcept a p.1", None)
        self.assertEqual(len(parse_facts("\n".join(f"concept a p.{number}" for number in range(50)))), 50)

    def test_table_lines(self):
        for line in ("table t s", "table t s 0", "table t s 4", "table t s 01", "table t s 1.0", "table t s x", "table t s 1 1", "table T s 1", "table t S 1", "table t1 s 1", "table t s1 1",
                     "table abcdefghi s 1", "table t abcdefghi 1", "table t 1", "table", "Table t s 1", "row", "row a", "table t s 11", "table t s +1", "tables t s 1"):
            self.wrong(parse_tables, line, 0)
            if not line.startswith("row a"):
                self.wrong(parse_tables, f"table v s 1\nrow 1\n{line}", 2)
        for row in ("row", "row a b", "row A", "row a.b", "row 123456789", "row =a", "row -1", "rows a", "row a;"):
            self.wrong(parse_tables, f"table t s 1\n{row}", 1)
        self.wrong(parse_tables, "table t s 3\nrow a b c\nrow a b", 2)
        self.wrong(parse_tables, "table t s 2\nrow a b\ntable u s 1\nrow a b", 3)

    def test_tables_in_any_order(self):
        text = "table u s 1\nrow b\nrow a\ntable t z 2\ntable a s 3\nrow 1 2 3"
        self.assertEqual(parse_tables(text), {"u": ("s", 1, [("b",), ("a",)]), "t": ("z", 2, []), "a": ("s", 3, [("1", "2", "3")])})

    def test_repeated_tables_and_rows(self):
        self.wrong(parse_tables, "table t s 1\nrow a\ntable t s 1", 2)
        self.wrong(parse_tables, "table t s 1\ntable u s 1\ntable t z 2\nrow a b", 2)
        self.wrong(parse_tables, "table t s 1\nrow a\nrow b\nrow a", 3)
        self.wrong(parse_tables, "row a\ntable t s 1", 0)
        self.assertEqual(parse_tables("table t s 1\nrow a\ntable u s 1\nrow a")["u"][2], [("a",)])

    def test_thirteen_rows(self):
        lines = ["table t s 1"] + [f"row {number}" for number in range(12)]
        self.assertEqual(len(parse_tables("\n".join(lines))["t"][2]), 12)
        self.wrong(parse_tables, "\n".join(lines + ["row x", "row y"]), 13)
        self.assertEqual(len(parse_tables("\n".join(lines + ["table u s 1"] + lines[1:]))), 2)

    def test_five_tables(self):
        lines = [f"table {name} s 1" for name in "tuvwx"]
        self.assertEqual(len(parse_tables("\n".join(lines[:4]))), 4)
        self.wrong(parse_tables, "\n".join(lines), None)
        self.wrong(parse_tables, "\n".join(lines + ["row a", "row a"]), 6)

    def test_mapping_lines(self):
        for line in ("map concept a p.e | t", "map concept a p.e | t e e e e", "map concept a p.e |", "map concept a p.e", "map | t e", "map concept a p.e | t f", "map concept a p.e | t =e",
                     "map concept a e | t e", "map concept a p.1 | t e", "map concept a p.e p.e | t e", "map role r p.e | t e", "map role r p.e p.f | t e", "map role r p.e p.e p.e | t e",
                     "map concept a p.e | t e ; u e ; v e", "map concept a p.e | t e ;", "map concept a p.e | ; t e", "map concept a p.e | t e | u e", "map concept a p.e | t e ; t e e",
                     "map concept a p.e | T e", "map concept a p.e | t e E", "map concept a p.e | t e =", "map concept a p.e | t e =A", "map concept a p.e | t e =abcdefghi",
                     "map concept a p.e | abcdefghi e", "map concept A p.e | t e", "concept a p.e | t e", "Map concept a p.e | t e", "map concept a p.e ; t e", "map subclass a p.e | t e",
                     "map concept a p.e | t e ; u", "map concept a p.e | t ; u e", "map concept a p.e | t p.e", "map concept a p.e | t 1 e", "map concept a p.e.e | t e", "map", "map |",
                     "map concept a abcdefghi.e | t e", "map concept a p.e | t e e ; t e", "map concept a .e | t e", "map concept a p. | t e", "map concept a p.e | t e ==1"):
            self.wrong(parse_mappings, line, 0)
            self.wrong(parse_mappings, f"map concept a p.e | t e\n{line}\nmap", 1)

    def test_mappings_of_any_tables(self):
        text = "map concept a p.e | t e\nmap concept a p.e | t e =1\nmap role r p.e q.f | t f e e ; u e f\nmap concept a p.e | t e e ; t e =1\nmap concept a p.e | t e"
        self.assertEqual(parse_mappings(text), slow_mappings(text))
        self.assertEqual(len(parse_mappings(text)), 5)

    def test_nine_mappings(self):
        line = "map concept a p.e | t e"
        self.assertEqual(len(parse_mappings("\n".join([line] * 8))), 8)
        self.wrong(parse_mappings, "\n".join([line] * 9), None)
        self.wrong(parse_mappings, "\n".join([line] * 9 + ["map"]), 9)

    def test_query_lines(self):
        for line in ("ask", "ask x", "ask x |", "ask |", "| concept a x", "ask x concept a x", "ask x | concept a", "ask x | concept a x y", "ask x | role r x", "ask x | role r x y z",
                     "ask x | concept a x ;", "ask x | ; concept a x", "ask x | concept a x | concept a x", "ask x ; concept a x", "ask X | concept a x", "ask x | concept A x",
                     "ask p.A | concept a x", "ask p. | concept a x", "ask .1 | concept a x", "ask p.1.1 | concept a x", "ask x1 | concept a x", "ask abcdefghi | concept a x", "Ask x | concept a x",
                     "ask x | a x", "ask x | concept a x concept b x", "ask x | concept a x ; ; concept b x", "ask x | map concept a x", "ask 1 | concept a x", "ask x | concept a 1", "ask x || concept a x",
                     "ask x | concept a =x", "ask x y|concept a x"):
            self.wrong(parse_query, line, 0)
            self.wrong(parse_query, f"{line}\nask | concept a x", 0)
        self.assertEqual(parse_query("ask p.1 x | role role x p.ask"), ((("p", "1"), "x"), (("role", "role", "x", ("p", "ask")),)))
        self.assertEqual(parse_query("ask | concept a x"), ((), (("concept", "a", "x"),)))

    def test_a_second_line(self):
        self.wrong(parse_query, "ask x | concept a x\nask x | concept a x", 1)
        self.wrong(parse_query, "ask x | concept a x\n", 1)
        self.wrong(parse_query, "ask y | concept a x\nask", 1)
        self.wrong(parse_query, "ask x | concept a x\n\n", 1)
        self.wrong(parse_query, "\nask x | concept a x", 0)

    def test_no_query(self):
        self.wrong(parse_query, "ask y | concept a x", None)
        self.wrong(parse_query, "ask x x x x | concept a x", None)
        self.wrong(parse_query, "ask p.1 p.1 p.1 p.1 | concept a x", None)
        self.wrong(parse_query, "ask x | " + " ; ".join(["concept a x"] * 5), None)
        self.assertEqual(len(parse_query("ask x x x | " + " ; ".join(["concept a x"] * 4))[1]), 4)

    def test_random_changes(self):
        """Texts that are right, with one character or word changed, against a slow parser."""
        rng = random.Random(212)
        seen = {"right": 0, "none": 0, "line": 0}
        for turn in range(6000):
            ontology = random_ontology(rng, ["a", "b"], ["r", "s"], positive=rng.randrange(1, 4), negative=rng.randrange(3))
            texts = {parse_ontology: format_ontology(ontology), parse_facts: format_facts(random_facts(rng, ["a"], ["r"], [("p", "1"), ("p", "2")], 3)),
                     parse_query: format_query(random_query(rng, ["a"], ["r"], [("p", "1")])), parse_tables: format_tables(random_tables(rng)),
                     parse_mappings: format_mappings([random_mapping(rng, ["a"], ["r"]) for number in range(2)])}
            parse = rng.choice(list(texts))
            text = self.spoiled(rng, texts[parse])
            expected = PARSERS[parse](text)
            if expected is None or type(expected) is int:
                self.raises(parse, text, expected)
                seen["none" if expected is None else "line"] += 1
            else:
                self.assertEqual(parse(text), expected, text)
                seen["right"] += 1
        self.assertTrue(all(count > 100 for count in seen.values()), seen)

    def spoiled(self, rng, text):
        if rng.randrange(3) == 0:
            position = rng.randrange(len(text) + 1)
            return text[:position] + rng.choice(["", "a", " ", "\n", ".", "1", "|", ";", "=", "A", "_"]) + text[position + rng.randrange(2):]
        words = re.split("( |\n)", text)
        position = rng.randrange(len(words))
        words[position] = rng.choice(["a", "r", "x", "d", "1", "2", "p.1", "p.x", "p.d", "concept", "out", "subrole", "functional", "row", "table", ";", "|", "=1", "role", rng.choice(words)])
        if rng.randrange(4) == 0:
            words = words + ["\n"] + words
        return "".join(words)


if __name__ == "__main__":
    unittest.main()
