"""Rewritings: queries whose answers on the facts alone are the certain answers of a query."""

from factsandfar.axioms import ROLE_INCLUSIONS, inverse, second_direction
from factsandfar.derivations import membership_fact
from factsandfar.errors import LimitExceeded
from factsandfar.facts import member_of, role_fact
from factsandfar.queries import (
    IsomorphismClasses, answers_of_all, distinct, equated, is_isomorphic, is_query, items_of, query_structure,
    resolved_terms, variables_of)
from factsandfar.shapes import is_index, tag_of, unused_word

MOST_QUERIES = 200
STEP_FORMS = (("axiom", 4), ("unify", 4))


def is_free_standing(query, term):
    answer_terms, patterns = query
    places = [other for pattern in distinct(patterns) for other in pattern[2:] if other == term]
    return isinstance(term, str) and len(places) == 1 and term not in answer_terms


def subclass_backwards(axiom, query, pattern):
    """The pattern that says of the subclass what a pattern says of the other concept, or None."""
    term = member_of(pattern, axiom[2])
    if term is None:
        return None
    if pattern[0] == "role" and not is_free_standing(query, member_of(pattern, inverse(axiom[2]))):
        return None
    return membership_fact(axiom[1], term, unused_word(variables_of(items_of(query[1]))))


def axiom_backwards(axiom, query, pattern):
    """The pattern to which an axiom leads from a pattern of a query, backwards, or None."""
    if axiom[0] == "subclass":
        return subclass_backwards(axiom, query, pattern)
    if axiom[0] in ROLE_INCLUSIONS and pattern[:2] == ("role", axiom[2]):
        # Backwards and forwards, a role is turned or not in the same way.
        back = second_direction((axiom[0], axiom[2], axiom[1]), ("out", axiom[2]))
        return role_fact(back, pattern[2], pattern[3])
    return None


def axiom_result(axiom, query, position):
    answer_terms, patterns = query
    old = patterns[position]
    new = axiom_backwards(axiom, query, old)
    if new is None:
        return None
    return (answer_terms, tuple(distinct([new if pattern == old else pattern for pattern in patterns])))


def unify_result(query, position, other):
    answer_terms, patterns = query
    first, second = patterns[position], patterns[other]
    if first[:2] != second[:2]:
        return None
    bindings = {}
    for one_term, other_term in zip(first[2:], second[2:]):
        bindings = equated(bindings, one_term, other_term)
        if bindings is None:
            return None
    # The second pattern has become equal to the first, so it is dropped with all repeated patterns.
    unified = [pattern[:2] + resolved_terms(bindings, pattern[2:]) for pattern in patterns]
    return (resolved_terms(bindings, answer_terms), tuple(distinct(unified)))


def possible_results(ontology, query, source):
    """All pairs (result, step) of steps on a query, which has the number source."""
    count = len(query[1])
    pairs = []
    for position in range(count):
        for index, axiom in enumerate(ontology):
            pairs.append((axiom_result(axiom, query, position), ("axiom", source, position, index)))
        for other in range(position + 1, count):
            pairs.append((unify_result(query, position, other), ("unify", source, position, other)))
    return [(result, step) for result, step in pairs if result is not None]


def rewrite(ontology, query):
    found = [(query, ("initial",))]
    classes = IsomorphismClasses()
    classes.include(query_structure(query))
    at = 0
    while at < len(found):
        results = possible_results(ontology, found[at][0], at)
        for result, step in results:
            if classes.include(query_structure(result)):
                found.append((result, step))
        if len(found) > MOST_QUERIES:
            raise LimitExceeded(MOST_QUERIES)
        at += 1
    return found


def step_result(ontology, queries, candidate):
    """The result of a step on one of the queries, or None if a value is not a possible step."""
    tag = tag_of(candidate, STEP_FORMS)
    if tag is None or not is_index(candidate[1], len(queries)):
        return None
    query = queries[candidate[1]]
    position, other = candidate[2:]
    if not is_index(position, len(query[1])):
        return None
    if tag == "axiom":
        return axiom_result(ontology[other], query, position) if is_index(other, len(ontology)) else None
    if not is_index(other, len(query[1])) or position >= other:
        return None
    return unify_result(query, position, other)


def is_first_pair(query, candidate):
    return tag_of(candidate[1], (("initial", 1),)) is not None and candidate[0] == query


def is_later_pair(ontology, queries, candidate):
    result = step_result(ontology, queries, candidate[1])
    return result is not None and is_isomorphic(result, candidate[0])


def is_closed(ontology, queries):
    classes = IsomorphismClasses()
    for query in queries:
        classes.include(query_structure(query))
    for query in queries:
        for result, step in possible_results(ontology, query, 0):
            if not classes.contains(query_structure(result)):
                return False
    return True


def is_rewriting(ontology, query, candidate):
    if not isinstance(candidate, list) or len(candidate) == 0:
        return False
    queries = []
    for pair in candidate:
        if not isinstance(pair, tuple) or len(pair) != 2 or not is_query(pair[0]):
            return False
        if not (is_later_pair(ontology, queries, pair) if queries else is_first_pair(query, pair)):
            return False
        queries.append(pair[0])
    return is_closed(ontology, queries)


def evaluate_rewriting(rewriting, facts):
    return answers_of_all(facts, [query for query, step in rewriting])
