"""Whether two ontologies have the same consequences, and facts and a query that show a difference."""

from factsandfar.answering import certain_answers
from factsandfar.conflicts import excluded_fact, find_conflict
from factsandfar.derivations import consequence, membership_fact
from factsandfar.facts import first_wrong_fact
from factsandfar.queries import distinct, is_query
from factsandfar.shapes import is_index

MEMBER = ("a", "1")
NEIGHBOUR = ("a", "2")
OTHER_NEIGHBOUR = ("a", "3")
VARIABLE = "x"
MOST_FACTS = 2


def first_fact(axiom):
    """A fact of which an axiom says something."""
    concept = ("out", axiom[1]) if isinstance(axiom[1], str) else axiom[1]
    return membership_fact(concept, MEMBER, NEIGHBOUR)


def clashing_fact(axiom, fact):
    """The fact that an axiom, which is not an inclusion, does not allow beside its first fact."""
    if axiom[0] == "functional":
        return membership_fact(axiom[1], MEMBER, OTHER_NEIGHBOUR)
    if axiom[0] == "disjoint":
        return fact if axiom[1] == axiom[2] else membership_fact(axiom[2], MEMBER, OTHER_NEIGHBOUR)
    return excluded_fact(axiom, fact)


def example_of(axiom):
    """Facts and a query that an ontology without an axiom answers differently, or None for a conflict."""
    fact = first_fact(axiom)
    pattern = consequence(axiom, fact, VARIABLE)
    if pattern is not None:
        return [fact], ((), (pattern,))
    return distinct([fact, clashing_fact(axiom, fact)]), None


def compare_ontologies(one, other):
    # The individuals of an example are as different as they can be, so an axiom of one ontology holds in all models of
    # the other one if its example shows no difference. If all do, the ontologies have the same models.
    for which, axioms in ((0, one), (1, other)):
        for axiom in axioms:
            facts, query = example_of(axiom)
            for difference in ((which, facts, query), (0, facts, None), (1, facts, None)):
                if is_difference(one, other, difference):
                    return difference
    return None


def is_difference(one, other, candidate):
    if not isinstance(candidate, tuple) or len(candidate) != 3:
        return False
    which, facts, query = candidate
    if not is_index(which, 2) or not isinstance(facts, (list, tuple)) or not 1 <= len(facts) <= MOST_FACTS:
        return False
    if first_wrong_fact(facts) is not None:
        return False
    having, lacking = (one, other) if which == 0 else (other, one)
    conflicts = [find_conflict(having, facts) is not None, find_conflict(lacking, facts) is not None]
    if query is None:
        return conflicts == [True, False]
    if conflicts != [False, False] or not is_query(query):
        return False
    # Only a query without answer terms has the answer ().
    return certain_answers(having, facts, query) == [()] and certain_answers(lacking, facts, query) == []
