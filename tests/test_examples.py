"""The examples of the interface, as the document shows them: only the result of the last line is given."""

import unittest

EXAMPLES = r"""
>>> from factsandfar.axioms import is_concept
>>> is_concept(("out", "worksin"))
True

>>> from factsandfar.axioms import is_axiom
>>> is_axiom(("functional", ("concept", "team")))
False

>>> from factsandfar.axioms import check_ontology
>>> check_ontology([("subrole", "r", "s"), ("functional", ("out", "s"))])
raises InvalidOntology

>>> from factsandfar.axioms import inverse
>>> inverse(("out", "worksin"))
('in', 'worksin')

>>> from factsandfar.axioms import concepts_of
>>> concepts_of([("subclass", ("concept", "manager"), ("out", "leads"))])
[('concept', 'manager'), ('in', 'leads'), ('out', 'leads')]

>>> from factsandfar.subsumption import superconcepts
>>> ontology = [("subclass", ("concept", "a"), ("concept", "b")), ("subclass", ("concept", "b"), ("out", "r"))]
>>> superconcepts(ontology, ("concept", "a"))
[('concept', 'a'), ('concept', 'b'), ('out', 'r')]

>>> from factsandfar.subsumption import find_chain
>>> ontology = [("subclass", ("concept", "a"), ("concept", "b")), ("subclass", ("concept", "b"), ("out", "r"))]
>>> find_chain(ontology, ("concept", "a"), ("out", "r"))
[0, 1]

>>> from factsandfar.subsumption import is_chain
>>> is_chain([("subrole", "r", "s")], ("in", "r"), ("in", "s"), [0], roles_only=True)
True

>>> from factsandfar.subsumption import chain_justifications
>>> ontology = [("subrole", "r", "s"), ("subclass", ("out", "r"), ("out", "s"))]
>>> chain_justifications(ontology, ("out", "r"), ("out", "s"))
[(0,), (1,)]

>>> from factsandfar.emptiness import find_emptiness_certificate
>>> find_emptiness_certificate([("subclass", ("concept", "a"), ("concept", "b"))], ("concept", "a"))
None

>>> from factsandfar.emptiness import is_emptiness_certificate
>>> ontology = [("disjoint", ("concept", "a"), ("concept", "b")), ("subclass", ("concept", "a"), ("concept", "b"))]
>>> is_emptiness_certificate(ontology, ("concept", "a"), ("disjoint", 0, [], [1]))
True

>>> from factsandfar.facts import check_facts
>>> check_facts([("concept", "a", ("p", "1")), ("concept", "a", ("p", "1"))])
raises InvalidFacts

>>> from factsandfar.derivations import derived_facts
>>> ontology = [("subclass", ("concept", "manager"), ("concept", "employee")), ("subclass", ("concept", "employee"), ("out", "worksin"))]
>>> facts = [("concept", "manager", ("emp", "ann"))]
>>> derived_facts(ontology, facts)
[('concept', 'employee', ('emp', 'ann')), ('concept', 'manager', ('emp', 'ann'))]

>>> from factsandfar.derivations import find_derivation
>>> ontology = [("subclass", ("concept", "manager"), ("concept", "employee")), ("subclass", ("concept", "employee"), ("out", "worksin"))]
>>> facts = [("concept", "manager", ("emp", "ann"))]
>>> find_derivation(ontology, facts, ("concept", "team", ("emp", "ann")))
None

>>> from factsandfar.derivations import is_derivation
>>> ontology = [("subclass", ("concept", "manager"), ("concept", "employee")), ("subclass", ("concept", "employee"), ("out", "worksin"))]
>>> facts = [("concept", "manager", ("emp", "ann"))]
>>> given = (("concept", "manager", ("emp", "ann")), ("given",))
>>> is_derivation(ontology, facts, [given, (("concept", "employee", ("emp", "ann")), ("axiom", 0, 0)), (("role", "worksin", ("emp", "ann"), 2), ("axiom", 1, 1))])
True

>>> from factsandfar.conflicts import find_conflict
>>> find_conflict([("disjoint", ("concept", "a"), ("concept", "b"))], [("concept", "a", ("p", "1"))])
None

>>> from factsandfar.conflicts import is_conflict
>>> facts = [("role", "r", ("p", "1"), ("p", "2")), ("role", "r", ("p", "1"), ("p", "3"))]
>>> is_conflict([("functional", ("out", "r"))], facts, ([(facts[0], ("given",)), (facts[1], ("given",))], 0, 0, 1))
True

>>> from factsandfar.models import is_model_table
>>> is_model_table(([], {}, [((("out", "r"),), (), (0,))]))
True

>>> from factsandfar.models import is_model
>>> ontology = [("subclass", ("concept", "a"), ("out", "r")), ("subclass", ("in", "r"), ("concept", "a"))]
>>> facts = [("concept", "a", ("p", "1"))]
>>> is_model(ontology, facts, (facts, {("p", "1"): [0]}, [((("out", "r"),), ("a",), (0,))]))
True

>>> from factsandfar.models import violated_axioms
>>> ontology = [("subclass", ("concept", "a"), ("out", "r")), ("functional", ("out", "r"))]
>>> violated_axioms(ontology, ([("concept", "a", ("p", "1"))], {}, []))
[0]

>>> from factsandfar.canonical import canonical_model
>>> canonical_model([("disjoint", ("concept", "a"), ("concept", "a"))], [("concept", "a", ("p", "1"))])
raises Inconsistent

>>> from factsandfar.queries import is_query
>>> is_query((("x",), (("concept", "team", "y"),)))
False

>>> from factsandfar.queries import is_isomorphic
>>> is_isomorphic((("x",), (("role", "r", "x", "y"),)), (("b",), (("role", "r", "b", "a"),)))
True

>>> from factsandfar.queries import evaluate
>>> evaluate([("role", "r", ("p", "1"), ("p", "2"))], (("y",), (("role", "r", "x", "y"),)))
[(('p', '2'),)]

>>> from factsandfar.matching import holds_in_model
>>> model = ([], {("p", "1"): [0]}, [((("out", "r"),), ("b",), ())])
>>> holds_in_model(model, (("x",), (("role", "r", "x", "y"), ("concept", "b", "y"))), (("p", "1"),))
True

>>> from factsandfar.answering import certain_answers
>>> ontology = [("subclass", ("concept", "manager"), ("concept", "employee")), ("subclass", ("concept", "employee"), ("out", "worksin"))]
>>> facts = [("concept", "manager", ("emp", "ann"))]
>>> certain_answers(ontology, facts, (("x",), (("role", "worksin", "x", "y"),)))
[(('emp', 'ann'),)]

>>> from factsandfar.answering import find_certificate
>>> ontology = [("subclass", ("concept", "manager"), ("concept", "employee")), ("subclass", ("concept", "employee"), ("out", "worksin"))]
>>> facts = [("concept", "manager", ("emp", "ann"))]
>>> find_certificate(ontology, facts, (("y",), (("role", "worksin", "x", "y"),)), (("emp", "ann"),))
None

>>> from factsandfar.answering import is_certificate
>>> facts = [("concept", "a", ("p", "1"))]
>>> is_certificate([], facts, (("x",), (("concept", "a", "x"),)), (("p", "1"),), ([(facts[0], ("given",))], {"x": ("p", "1")}, (0,)))
True

>>> from factsandfar.answering import find_countermodel
>>> ontology = [("subclass", ("concept", "manager"), ("concept", "employee")), ("subclass", ("concept", "employee"), ("out", "worksin"))]
>>> facts = [("concept", "manager", ("emp", "ann"))]
>>> find_countermodel(ontology, facts, (("x",), (("concept", "employee", "x"),)), (("emp", "ann"),))
None

>>> from factsandfar.answering import is_countermodel
>>> facts = [("concept", "a", ("p", "1"))]
>>> is_countermodel([], facts, ((), (("concept", "b", "x"),)), (), (facts, {}, []))
True

>>> from factsandfar.rewriting import rewrite
>>> ontology = [("subclass", ("concept", "manager"), ("concept", "employee"))]
>>> query = (("x",), (("concept", "employee", "x"),))
>>> len(rewrite(ontology, query))
2

>>> from factsandfar.rewriting import is_rewriting
>>> ontology = [("subclass", ("concept", "manager"), ("concept", "employee"))]
>>> query = (("x",), (("concept", "employee", "x"),))
>>> is_rewriting(ontology, query, [(query, ("initial",)), ((("x",), (("concept", "manager", "x"),)), ("axiom", 0, 0, 0))])
True

>>> from factsandfar.rewriting import evaluate_rewriting
>>> rewriting = [((("x",), (("concept", "a", "x"),)), ("initial",))]
>>> evaluate_rewriting(rewriting, [("concept", "a", ("p", "1"))])
[(('p', '1'),)]

>>> from factsandfar.containment import find_homomorphism
>>> find_homomorphism((("x",), (("concept", "a", "x"),)), (("y",), (("concept", "a", "y"), ("concept", "b", "y"))))
{'x': 'y'}

>>> from factsandfar.containment import is_homomorphism
>>> is_homomorphism(((), (("concept", "a", "x"),)), ((), (("concept", "a", ("p", "1")),)), {"x": ("p", "1")})
True

>>> from factsandfar.containment import minimize
>>> minimize([((), (("concept", "a", "x"), ("concept", "b", "x"))), ((), (("concept", "a", "y"),))])
[((), (('concept', 'a', 'y'),))]

>>> from factsandfar.containment import find_separation
>>> find_separation([((), (("concept", "a", "x"),))], [((), (("concept", "a", "y"), ("concept", "a", "z")))])
None

>>> from factsandfar.containment import is_separation
>>> is_separation([], [((), (("concept", "a", "x"),))], (1, [("concept", "a", ("p", "1"))], ()))
True

>>> from factsandfar.tables import check_tables
>>> check_tables({"staff": ("hr", 4, [])})
raises InvalidTables

>>> from factsandfar.tables import check_constraints
>>> tables = {"staff": ("hr", 2, [("ann", "sales")])}
>>> check_constraints(tables, [("key", "staff", 2)])
raises InvalidConstraints

>>> from factsandfar.tables import violated_constraints
>>> tables = {"staff": ("hr", 2, [("ann", "sales"), ("ann", "legal")])}
>>> violated_constraints(tables, [("key", "staff", 1), ("key", "staff", 0)])
[1]

>>> from factsandfar.mappings import check_mappings
>>> tables = {"staff": ("hr", 2, [("ann", "sales")])}
>>> check_mappings(tables, [((("staff", ("e",)),), ("concept", "employee", ("emp", "e")))])
raises InvalidMappings

>>> from factsandfar.mappings import facts_with_provenance
>>> tables = {"staff": ("hr", 2, [("ann", "sales")])}
>>> mappings = [((("staff", ("e", "t")),), ("role", "worksin", ("emp", "e"), ("team", "t")))]
>>> facts_with_provenance(mappings, tables)
[(('role', 'worksin', ('emp', 'ann'), ('team', 'sales')), 0, (('staff', 0),))]

>>> from factsandfar.mappings import mapped_facts
>>> tables = {"staff": ("hr", 2, [("ann", "sales")])}
>>> mappings = [((("staff", ("e", "t")),), ("role", "worksin", ("emp", "e"), ("team", "t")))]
>>> mapped_facts(mappings, tables)
[('role', 'worksin', ('emp', 'ann'), ('team', 'sales'))]

>>> from factsandfar.unfolding import unfold
>>> mappings = [((("staff", ("e", "t")),), ("role", "worksin", ("emp", "e"), ("team", "t")))]
>>> len(unfold(mappings, [(("x",), (("role", "worksin", "x", "y"),)), (("x",), (("concept", "team", "x"),))]))
1

>>> from factsandfar.unfolding import evaluate_on_tables
>>> tables = {"staff": ("hr", 2, [("ann", "sales")])}
>>> evaluate_on_tables(tables, [((("emp", "e"),), (("staff", ("e", ("value", "sales"))),))])
[(('emp', 'ann'),)]

>>> from factsandfar.simplification import apply_step
>>> query = ((("emp", "e"),), (("staff", ("e", "t")), ("teams", ("t", "b"))))
>>> apply_step([("foreign_key", "staff", 1, "teams", 0)], query, ("foreign_key", 0, 0, 1))
((('emp', 'e'),), (('staff', ('e', 't')),))

>>> from factsandfar.simplification import simplification_steps
>>> query = ((("emp", "e"),), (("staff", ("e", "t")), ("teams", ("t", "b"))))
>>> simplification_steps([("foreign_key", "staff", 1, "teams", 0)], query)
[('foreign_key', 0, 0, 1)]

>>> from factsandfar.simplification import redundant_mappings
>>> mapping = ((("staff", ("e",)),), ("concept", "employee", ("emp", "e")))
>>> redundant_mappings([mapping, mapping])
[(1, 0)]

>>> from factsandfar.justifications import answer_justifications
>>> tables = {"staff": ("hr", 2, [("ann", "sales")])}
>>> mappings = [((("staff", ("e", "t")),), ("role", "worksin", ("emp", "e"), ("team", "t")))]
>>> ontology = [("subclass", ("out", "worksin"), ("concept", "employee"))]
>>> answer_justifications(ontology, mappings, tables, (("x",), (("concept", "employee", "x"),)), (("emp", "ann"),))
[(('staff', 0),)]

>>> from factsandfar.justifications import conflict_sets
>>> tables = {"staff": ("hr", 1, [("ann",)]), "guests": ("front", 1, [("ann",)])}
>>> mappings = [((("staff", ("e",)),), ("concept", "employee", ("p", "e"))), ((("guests", ("g",)),), ("concept", "guest", ("p", "g")))]
>>> ontology = [("disjoint", ("concept", "employee"), ("concept", "guest"))]
>>> conflict_sets(ontology, mappings, tables)
[(('guests', 0), ('staff', 0))]

>>> from factsandfar.repairing import minimal_hitting_sets
>>> minimal_hitting_sets([(0, 1), (1, 2)])
[(0, 2), (1,)]

>>> from factsandfar.repairing import repairs
>>> tables = {"staff": ("hr", 1, [("ann",)]), "guests": ("front", 1, [("ann",)])}
>>> mappings = [((("staff", ("e",)),), ("concept", "employee", ("p", "e"))), ((("guests", ("g",)),), ("concept", "guest", ("p", "g")))]
>>> ontology = [("disjoint", ("concept", "employee"), ("concept", "guest"))]
>>> repairs(ontology, mappings, tables)
[(('guests', 0),), (('staff', 0),)]

>>> from factsandfar.repairing import remove_rows
>>> remove_rows({"t": ("s", 1, [("a",), ("b",)])}, [("t", 0)])
{'t': ('s', 1, [('b',)])}

>>> from factsandfar.repairing import consistent_answers
>>> tables = {"staff": ("hr", 1, [("ann",)]), "guests": ("front", 1, [("ann",)])}
>>> mappings = [((("staff", ("e",)),), ("concept", "employee", ("p", "e"))), ((("guests", ("g",)),), ("concept", "guest", ("p", "g")))]
>>> ontology = [("disjoint", ("concept", "employee"), ("concept", "guest"))]
>>> consistent_answers(ontology, mappings, tables, (("x",), (("concept", "employee", "x"),)))
[]

>>> from factsandfar.repairing import possible_answers
>>> tables = {"staff": ("hr", 1, [("ann",)]), "guests": ("front", 1, [("ann",)])}
>>> mappings = [((("staff", ("e",)),), ("concept", "employee", ("p", "e"))), ((("guests", ("g",)),), ("concept", "guest", ("p", "g")))]
>>> ontology = [("disjoint", ("concept", "employee"), ("concept", "guest"))]
>>> possible_answers(ontology, mappings, tables, (("x",), (("concept", "employee", "x"),)))
[(('p', 'ann'),)]

>>> from factsandfar.knowledge_base import KnowledgeBase
>>> tables = {"staff": ("hr", 1, [("ann",)]), "guests": ("front", 1, [("ann",)])}
>>> mappings = [((("staff", ("e",)),), ("concept", "employee", ("p", "e"))), ((("guests", ("g",)),), ("concept", "guest", ("p", "g")))]
>>> ontology = [("disjoint", ("concept", "employee"), ("concept", "guest"))]
>>> len(KnowledgeBase(ontology, mappings=mappings, tables=tables))
2

>>> from factsandfar.knowledge_base import KnowledgeBase
>>> base = KnowledgeBase()
>>> base.apply(("add_table", "staff", "hr", 1))
1

>>> from factsandfar.knowledge_base import KnowledgeBase
>>> KnowledgeBase().undo()
raises InvalidChange

>>> from factsandfar.knowledge_base import KnowledgeBase
>>> base = KnowledgeBase()
>>> base.apply_all([("add_table", "staff", "hr", 1), ("add_row", "staff", ("ann",))])
2

>>> from factsandfar.knowledge_base import KnowledgeBase
>>> tables = {"staff": ("hr", 1, [("ann",)]), "guests": ("front", 1, [("ann",)])}
>>> mappings = [((("staff", ("e",)),), ("concept", "employee", ("p", "e"))), ((("guests", ("g",)),), ("concept", "guest", ("p", "g")))]
>>> ontology = [("disjoint", ("concept", "employee"), ("concept", "guest"))]
>>> base = KnowledgeBase(ontology, mappings=mappings, tables=tables)
>>> base.facts()
[('concept', 'employee', ('p', 'ann')), ('concept', 'guest', ('p', 'ann'))]

>>> from factsandfar.knowledge_base import KnowledgeBase
>>> base = KnowledgeBase()
>>> other = base.clone()
>>> other.apply(("add_table", "staff", "hr", 1))
>>> base == other
False

>>> from factsandfar.knowledge_base import KnowledgeBase
>>> tables = {"staff": ("hr", 1, [("ann",)]), "guests": ("front", 1, [("ann",)])}
>>> mappings = [((("staff", ("e",)),), ("concept", "employee", ("p", "e"))), ((("guests", ("g",)),), ("concept", "guest", ("p", "g")))]
>>> ontology = [("disjoint", ("concept", "employee"), ("concept", "guest"))]
>>> base = KnowledgeBase(ontology, mappings=mappings, tables=tables)
>>> query = (("x",), (("concept", "employee", "x"),))
>>> base.answers(query, offline=("front",))
[(('p', 'ann'),)]

>>> from factsandfar.knowledge_base import KnowledgeBase
>>> KnowledgeBase().save_query("staff", (("x",), ()))
raises InvalidQuery

>>> from factsandfar.knowledge_base import KnowledgeBase
>>> tables = {"staff": ("hr", 1, [("ann",)]), "guests": ("front", 1, [("ann",)])}
>>> mappings = [((("staff", ("e",)),), ("concept", "employee", ("p", "e"))), ((("guests", ("g",)),), ("concept", "guest", ("p", "g")))]
>>> ontology = [("disjoint", ("concept", "employee"), ("concept", "guest"))]
>>> base = KnowledgeBase(ontology, mappings=mappings, tables=tables)
>>> query = (("x",), (("concept", "employee", "x"),))
>>> base.save_query("all", query)
>>> base.saved_answers("all")
None

>>> from factsandfar.knowledge_base import KnowledgeBase
>>> tables = {"staff": ("hr", 1, [("ann",)]), "guests": ("front", 1, [("ann",)])}
>>> mappings = [((("staff", ("e",)),), ("concept", "employee", ("p", "e"))), ((("guests", ("g",)),), ("concept", "guest", ("p", "g")))]
>>> base = KnowledgeBase(mappings=mappings, tables=tables)
>>> query = (("x",), (("concept", "employee", "x"),))
>>> base.preview(("add_row", "staff", ("bob",)), query)
([(('p', 'bob'),)], [])

>>> from factsandfar.knowledge_base import KnowledgeBase
>>> tables = {"staff": ("hr", 1, [("ann",)]), "guests": ("front", 1, [("ann",)])}
>>> mappings = [((("staff", ("e",)),), ("concept", "employee", ("p", "e"))), ((("guests", ("g",)),), ("concept", "guest", ("p", "g")))]
>>> ontology = [("disjoint", ("concept", "employee"), ("concept", "guest"))]
>>> base = KnowledgeBase(mappings=mappings, tables=tables)
>>> base.apply(("add_axiom", ontology[0]))
>>> base.inconsistent_since()
1

>>> from factsandfar.comparison import compare_ontologies
>>> compare_ontologies([("subrole", "r", "s")], [("subrole", "r", "s"), ("subclass", ("out", "r"), ("out", "s"))])
None

>>> from factsandfar.comparison import is_difference
>>> is_difference([("functional", ("out", "r"))], [], (0, [("role", "r", ("p", "1"), ("p", "2")), ("role", "r", ("p", "1"), ("p", "3"))], None))
True

>>> from factsandfar.alignment import new_consequences
>>> new_consequences([("subclass", ("concept", "a"), ("concept", "b"))], [("subclass", ("concept", "b"), ("concept", "a"))])
([(('concept', 'b'), ('concept', 'a'))], [], [])

>>> from factsandfar.renaming import rename_ontology
>>> rename_ontology([("subclass", ("concept", "a"), ("out", "r"))], {"a": "b"}, {"r": "s"})
[('subclass', ('concept', 'b'), ('out', 's'))]

>>> from factsandfar.renaming import rename_tables
>>> rename_tables({"t": ("s", 1, [])}, {"t": "u"}, {"s": "z"})
{'u': ('z', 1, [])}

>>> from factsandfar.renaming import rename_mappings
>>> rename_mappings([((("t", ("x",)),), ("concept", "a", ("p", "x")))], {"a": "b"}, {}, {"t": "u"})
[((('u', ('x',)),), ('concept', 'b', ('p', 'x')))]

>>> from factsandfar.text_format import format_query
>>> format_query((("x",), (("role", "r", "x", ("p", "1")), ("concept", "a", "x"))))
'ask x | role r x p.1 ; concept a x'

>>> from factsandfar.text_format import parse_ontology
>>> parse_ontology("subclass concept a out r\nfunctional out r")
[('subclass', ('concept', 'a'), ('out', 'r')), ('functional', ('out', 'r'))]

>>> from factsandfar.console import Console
>>> console = Console()
>>> console.run("add table staff hr 1")
>>> console.run("add row staff ann")
>>> console.run("add map concept employee p.e | staff e")
>>> console.run("ask x | concept employee x")
'p.ann'
"""


def run(lines):
    """The text of the last line's result, or of the exception that it raises."""
    names = {}
    for line in lines[:-1]:
        exec(line, names)
    try:
        return repr(eval(lines[-1], names))
    except Exception as error:
        return f"raises {type(error).__name__}"


class Examples(unittest.TestCase):
    def test_every_example(self):
        for example in EXAMPLES.strip().split("\n\n"):
            *lines, result = example.split("\n")
            with self.subTest(example=example):
                self.assertTrue(all(line.startswith(">>> ") for line in lines))
                self.assertEqual(run([line[4:] for line in lines]), result)

    def test_their_number(self):
        self.assertEqual(len(EXAMPLES.strip().split("\n\n")), 76)


if __name__ == "__main__":
    unittest.main()
