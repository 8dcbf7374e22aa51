import inspect
import random
import unittest

from factsandfar.console import Console
from factsandfar.errors import Inconsistent, InvalidAnswer, InvalidChange, InvalidCommand, LimitExceeded, OntologyError
from factsandfar.justifications import answer_justifications
from factsandfar.knowledge_base import KnowledgeBase
from factsandfar.repairing import repairs
from factsandfar.rewriting import rewrite
from factsandfar.text_format import format_mappings, format_ontology, format_query
from oracles import STRANGE, random_mapping, random_ontology, random_query, random_tables

STAFF = ["add table staff hr 1", "add table guests front 1", "add map concept employee p.e | staff e", "add map concept guest p.g | guests g",
         "add row staff ann", "add row staff bob", "add row guests ann"]


def console_after(*commands):
    console = Console()
    for command in commands:
        console.run(command)
    return console


class Commands(unittest.TestCase):
    def runs(self, console, command, expected):
        found = console.run(command)
        self.assertEqual((found, type(found)), (expected, str), command)

    def session(self, *pairs, console=None):
        """Commands one after the other, each with its result."""
        console = Console() if console is None else console
        for command, expected in pairs:
            if isinstance(expected, str):
                self.runs(console, command, expected)
            else:
                self.assertRaises(expected, console.run, command)
        return console

    def invalid(self, console, *commands):
        before = (console.run("version"), console.run("rows"))
        for command in commands:
            with self.assertRaises(InvalidCommand, msg=repr(command)) as caught:
                console.run(command)
            self.assertIsInstance(caught.exception, OntologyError)
        self.assertEqual((console.run("version"), console.run("rows")), before)

    def test_empty_at_first(self):
        self.session(("version", "0"), ("rows", "0"), ("inconsistent", "-"), ("repairs", "1"), ("ask x | concept a x", "-"), ("ask | concept a x", "-"),
                     ("undo", InvalidChange), ("rewrite ask x | concept a x", "1"), ("justifications p.1 | ask x | concept a x", "0"),
                     ("offline hr | ask x | concept a x", "-"))

    def test_add_and_remove(self):
        self.session(("add table staff hr 2", "1"), ("add row staff ann sales", "2"), ("add row staff bob it", "3"), ("rows", "2"),
                     ("add map role worksin emp.e team.t | staff e t", "4"), ("add subclass out worksin concept employee", "5"),
                     ("ask x | concept employee x", "emp.ann; emp.bob"), ("ask x y | role worksin x y", "emp.ann team.sales; emp.bob team.it"),
                     ("remove row staff ann sales", "6"), ("ask x | concept employee x", "emp.bob"), ("remove subclass out worksin concept employee", "7"),
                     ("ask x | concept employee x", "-"), ("remove map role worksin emp.e team.t | staff e t", "8"), ("remove table staff", InvalidChange),
                     ("remove row staff bob it", "9"), ("remove table staff", "10"), ("rows", "0"), ("version", "10"))

    def test_each_axiom(self):
        console = Console()
        lines = ["subclass concept a out r", "disjoint in r concept b", "subrole r s", "subrole_inverse q s", "disjoint_roles r q", "disjoint_inverse r r", "functional out q"]
        for number, line in enumerate(lines):
            self.runs(console, f"add {line}", str(number + 1))
            self.session((f"add {line}", InvalidChange), console=console)
        for number, line in enumerate(lines):
            self.runs(console, f"remove {line}", str(len(lines) + number + 1))
            self.session((f"remove {line}", InvalidChange), console=console)

    def test_tables_and_rows(self):
        self.session(("add table a s 1", "1"), ("add table b s 2", "2"), ("add table c s 3", "3"), ("add row a 1", "4"), ("add row b 1 2x", "5"), ("add row c a b c", "6"),
                     ("add row a 1", InvalidChange), ("add row b 1", InvalidChange), ("add row c 1 2", InvalidChange), ("add row d 1", InvalidChange), ("remove row a 2", InvalidChange),
                     ("add table a z 1", InvalidChange), ("remove table a", InvalidChange), ("remove table d", InvalidChange), ("rows", "3"),
                     ("add table d s 1", "7"), ("add table e s 1", InvalidChange), ("remove table d", "8"), ("add table e s 1", "9"))

    def test_mappings(self):
        self.session(("add map concept a p.e | t e", InvalidChange), ("add table t s 2", "1"), ("add map concept a p.e | t e", InvalidChange), ("add map concept a p.e | t e =1", "2"),
                     ("add map concept a p.e | t e =1", InvalidChange), ("add map role r p.e q.f | t e =1 ; t f e", "3"), ("add row t x 1", "4"), ("add row t y x", "5"),
                     ("ask x y | role r x y", "p.x q.y"), ("ask x | concept a x", "p.x"), ("remove table t", InvalidChange), ("remove map concept a p.e | t e =2", InvalidChange),
                     ("remove map concept a p.e | t e =1", "6"), ("ask x | concept a x", "-"))

    def test_undo(self):
        console = self.session(("add table t s 1", "1"), ("add row t a", "2"), ("undo", "1"), ("rows", "0"), ("version", "1"), ("add row t a", "2"), ("add row t a", InvalidChange),
                               ("version", "2"), ("undo", "1"), ("undo", "0"), ("undo", InvalidChange), ("version", "0"), ("add row t a", InvalidChange))
        self.session(("add table t s 1", "1"), console=console)

    def test_answers(self):
        console = console_after(*STAFF)
        self.session(("ask x | concept employee x", "p.ann; p.bob"), ("ask x y | concept employee x ; concept guest y", "p.ann p.ann; p.bob p.ann"),
                     ("ask | concept employee x", "yes"), ("ask | concept other x", "-"), ("ask x | concept other x", "-"), ("ask p.zoe x | concept guest x", "p.zoe p.ann"),
                     ("ask | concept employee p.ann", "yes"), ("ask | concept employee p.zoe", "-"), ("ask x | concept employee x ; concept guest x", "p.ann"),
                     ("ask x x x | concept guest x", "p.ann p.ann p.ann"), console=console)

    def test_offline(self):
        console = console_after(*STAFF)
        self.session(("offline hr | ask x | concept employee x", "-"), ("offline front | ask x | concept employee x", "p.ann; p.bob"), ("offline front | ask | concept guest x", "-"),
                     ("offline hr front | ask | concept employee x", "-"), ("offline other | ask | concept guest x", "yes"), ("offline hr hr other | ask x | concept guest x", "p.ann"),
                     ("add disjoint concept employee concept guest", "8"), ("ask x | concept employee x", Inconsistent), ("offline other | ask x | concept employee x", Inconsistent),
                     ("offline front | ask x | concept employee x", "p.ann; p.bob"), console=console)

    def test_inconsistent(self):
        console = console_after(*STAFF)
        self.session(("inconsistent", "-"), ("add disjoint concept employee concept guest", "8"), ("inconsistent", "8"), ("add row staff cid", "9"), ("inconsistent", "8"),
                     ("remove row guests ann", "10"), ("inconsistent", "-"), ("undo", "9"), ("inconsistent", "8"), ("undo", "8"), ("undo", "7"), ("inconsistent", "-"), console=console)

    def test_justifications(self):
        console = console_after(*STAFF, "add subclass concept guest concept person", "add subclass concept employee concept person")
        self.session(("justifications p.ann | ask x | concept person x", "2"), ("justifications p.bob | ask x | concept person x", "1"), ("justifications p.zoe | ask x | concept person x", "0"),
                     ("justifications | ask | concept person x", "3"), ("justifications p.ann p.bob | ask x y | concept guest x ; concept employee y", "1"),
                     ("justifications | ask x | concept person x", InvalidAnswer), ("justifications p.ann p.bob | ask x | concept person x", InvalidAnswer),
                     ("justifications p.ann | ask | concept person x", InvalidAnswer), ("add disjoint concept employee concept guest", "10"),
                     ("justifications p.ann | ask x | concept person x", "2"), ("justifications p.a p.a p.a p.a | ask x | concept person x", InvalidAnswer), console=console)

    def test_repairs(self):
        console = console_after(*STAFF)
        self.session(("repairs", "1"), ("add disjoint concept employee concept guest", "8"), ("repairs", "2"), ("add row guests bob", "9"), ("repairs", "4"), console=console)
        for number in range(5):
            console.run(f"add row staff v{number}")
            console.run(f"add row guests v{number}")
        self.session(("repairs", LimitExceeded), ("inconsistent", "8"), console=console)

    def test_rewrite(self):
        console = Console()
        self.session(("rewrite ask x | concept a x", "1"), ("add subclass concept b concept a", "1"), ("rewrite ask x | concept a x", "2"), ("add subclass out r concept b", "2"),
                     ("rewrite ask x | concept a x", "3"), ("rewrite ask | concept c x", "1"), console=console)
        for name in "defghi":
            console.run(f"add subclass concept {name} concept a")
        self.session(("rewrite ask x | concept a x ; concept a y ; concept a z ; concept a w", LimitExceeded), console=console)

    def test_too_many_and_too_few_words(self):
        console = console_after(*STAFF)
        self.invalid(console, "undo 1", "version 1", "rows staff", "inconsistent 1", "repairs 1", "add", "remove", "ask", "offline", "justifications", "rewrite", "undo undo",
                     "add table", "add table t", "add table t s", "add table t s 1 1", "remove table", "remove table staff hr 1", "remove table staff hr", "add row", "add row staff",
                     "add row staff a b c d", "remove row staff", "remove row", "add subclass concept a", "add subrole r", "add subrole r s q", "add functional out", "add map", "remove map",
                     "add map concept a p.e", "ask x", "ask x |", "ask |", "offline hr", "offline | ask x | concept a x", "offline ask x | concept a x", "offline hr | x | concept a x",
                     "offline hr | ask x", "offline hr | concept a x", "offline hr |", "justifications p.ann", "justifications p.ann | concept a x", "justifications ask x | concept a x",
                     "justifications p.ann | ask x", "justifications p.ann |", "rewrite x | concept a x", "rewrite ask x", "rewrite ask", "rewrite | concept a x", "ask x | concept a x | concept b x",
                     "rewrite rewrite ask x | concept a x", "offline hr | offline hr | ask x | concept a x", "add add subrole r s", "add ask x | concept a x", "add undo")

    def test_invalid_words_values_and_numbers(self):
        console = console_after(*STAFF)
        self.invalid(console, "add table T s 1", "add table t S 1", "add table t s 0", "add table t s 4", "add table t s 01", "add table t s one", "add table abcdefghi s 1", "add table t1 s 1",
                     "remove table T", "remove table staff1", "add row Staff a", "add row staff A", "add row staff a.b", "add row staff 123456789", "add row staff =a", "remove row staff A", "add row 1 a",
                     "add subclass a b", "add subclass concept A concept b", "add functional concept a", "add functional r", "add subrole r abcdefghi", "add map concept a p.e | staff f",
                     "add map concept a p.e | staff e ; staff e e", "add map concept a p.1 | staff e", "remove map concept a p.e | staff", "add concept a p.1", "add fact concept a p.1",
                     "offline HR | ask x | concept a x", "offline h1 | ask x | concept a x", "offline p.1 | ask x | concept a x", "offline hr, front | ask x | concept a x",
                     "justifications x | ask x | concept a x", "justifications p.A | ask x | concept a x", "justifications p. | ask x | concept a x", "justifications ann | ask x | concept a x",
                     "justifications p.1.1 | ask x | concept a x", "help", "exit", "Version", "VERSION", "list", "row staff a", "subrole r s", "concept a p.1", "", "0", "|", "add_row staff a")

    def test_invalid_queries(self):
        console = console_after(*STAFF)
        for query in ("ask y | concept a x", "ask x x x x | concept a x", "ask x | " + " ; ".join(["concept a x"] * 5), "ask x | concept a", "ask X | concept a x", "ask x | subclass a x",
                      "ask x | concept a x ;", "ask x concept a x"):
            self.invalid(console, query, f"offline hr | {query}", f"justifications p.ann | {query}", f"rewrite {query}")

    def test_blanks_and_line_feeds(self):
        console = console_after(*STAFF)
        for command in ("version", "rows", "inconsistent", "repairs", "undo", "ask x | concept a x", "add row staff zoe", "offline hr | ask x | concept a x", "rewrite ask x | concept a x",
                        "justifications p.ann | ask x | concept a x", "justifications | ask | concept a x", "remove row staff ann", "add subrole r s"):
            self.invalid(console, " " + command, command + " ", command + "\n", "\n" + command, command + "\nversion", command.replace(" ", "  ", 1) + ("" if " " in command else " "),
                         command.replace(" ", "\t") + ("" if " " in command else "\t"), command + " |", command.upper())
        self.session(("version", "7"), console=console)

    def test_any_value(self):
        self.invalid(console_after(*STAFF), *STRANGE, b"version", ["version"], ("version",), {"version": 1})

    def test_errors_of_the_other_sections(self):
        console = console_after(*STAFF, "add disjoint concept employee concept guest")
        with self.assertRaises(Inconsistent) as caught:
            console.run("ask x | concept employee x")
        self.assertEqual(len(caught.exception.certificate), 4)
        before = console.run("version")
        for command, error in (("add row staff ann", InvalidChange), ("remove row staff zoe", InvalidChange), ("add row other zoe", InvalidChange), ("add row staff a b", InvalidChange),
                               ("add table staff hr 1", InvalidChange), ("add disjoint concept employee concept guest", InvalidChange), ("add map concept a p.e | other e", InvalidChange),
                               ("add map concept a p.e | staff e e", InvalidChange), ("remove subrole r s", InvalidChange), ("justifications | ask x | concept employee x", InvalidAnswer)):
            self.assertRaises(error, console.run, command)
            self.assertEqual(console.run("version"), before)
        for number in range(15):
            console.run(f"add subclass concept a concept a{chr(97 + number)}")
        self.assertRaises(InvalidChange, console.run, "add subclass concept a concept b")
        self.session(("add subrole r s", InvalidChange), ("remove subclass concept a concept aa", "24"), ("add subrole r s", "25"), ("remove subclass concept a concept ab", "26"),
                     ("add functional out s", InvalidChange), ("add functional out r", "27"), console=console)

    def test_names(self):
        self.assertEqual(str(inspect.signature(Console)), "()")
        self.assertEqual(Console().run(command="version"), "0")
        one, other = Console(), Console()
        one.run("add table t s 1")
        self.assertEqual((one.run("version"), other.run("version")), ("1", "0"))


class AgainstKnowledgeBases(unittest.TestCase):
    def outcome(self, function, *arguments):
        """A result, or the name of the error that is raised."""
        try:
            return function(*arguments)
        except (OntologyError, InvalidAnswer, Inconsistent, LimitExceeded) as error:
            return type(error).__name__

    def test_random_sessions(self):
        rng = random.Random(221)
        results = {}
        for turn in range(200):
            console, base = Console(), KnowledgeBase()
            tables = random_tables(rng)
            for name, (source, count, rows) in tables.items():
                self.assertEqual(console.run(f"add table {name} {source} {count}"), str(base.apply(("add_table", name, source, count))))
            changes = [(("row", name, row), f"row {name} {' '.join(row)}") for name in tables for row in tables[name][2]]
            changes += [(("mapping", mapping), format_mappings([mapping])) for mapping in [random_mapping(rng, ["a", "b"], ["r"]) for number in range(3)]]
            changes += [(("axiom", axiom), format_ontology([axiom])) for axiom in random_ontology(rng, ["a", "b"], ["r"], positive=2, negative=1)]
            rng.shuffle(changes)
            for details, line in changes + [rng.choice(changes) for number in range(6)]:
                action = rng.choice(["add", "add", "add", "remove"])
                self.assertEqual(self.outcome(console.run, f"{action} {line}"), str(self.outcome(base.apply, (f"{action}_{details[0]}", *details[1:]))))
                if rng.randrange(6) == 0:
                    self.assertEqual(self.outcome(console.run, "undo"), str(self.outcome(base.undo)))
                self.assertEqual((console.run("version"), console.run("rows")), (str(base.version()), str(len(base))))
            since = base.inconsistent_since()
            self.assertEqual(console.run("inconsistent"), "-" if since is None else str(since))
            parts = base.ontology(), base.mappings(), base.tables()
            self.assertEqual(self.outcome(console.run, "repairs"), str(self.outcome(lambda: len(repairs(*parts)))))
            for number in range(4):
                query = random_query(rng, ["a", "b"], ["r"], [("p", "1")], most=2, answers=2)
                line = format_query(query)
                answers = self.outcome(base.answers, query)
                self.assertEqual(self.outcome(console.run, line), self.text(answers))
                self.assertEqual(self.outcome(console.run, f"offline s | {line}"), self.text(self.outcome(lambda: base.answers(query, offline=("s",)))))
                self.assertEqual(self.outcome(console.run, f"rewrite {line}"), str(self.outcome(lambda: len(rewrite(parts[0], query)))))
                answer = rng.choice(answers) if isinstance(answers, list) and answers else (("p", "1"),) * len(query[0])
                command = " ".join(["justifications"] + [f"{word}.{value}" for word, value in answer] + ["|", line])
                self.assertEqual(self.outcome(console.run, command), str(self.outcome(lambda: len(answer_justifications(*parts, query, answer)))))
                results[self.text(answers)] = True
        self.assertTrue({"yes", "-", "Inconsistent"} < set(results))
        self.assertGreater(len(results), 12)

    def text(self, answers):
        if isinstance(answers, str):
            return answers
        lines = "; ".join(" ".join(".".join(individual) for individual in answer) for answer in answers)
        return "-" if not answers else lines or "yes"


if __name__ == "__main__":
    unittest.main()
