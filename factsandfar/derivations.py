"""Derivations of facts from given facts, step by step."""

from factsandfar.axioms import ROLE_INCLUSIONS, second_direction
from factsandfar.facts import is_fact, is_named, member_of, memberships, role_fact, terms_of
from factsandfar.shapes import is_index, is_integer, tag_of
from factsandfar.subsumption import chains_from

MOST_STEPS = 1000
REASON_FORMS = (("given", 1), ("axiom", 3))


def consequence(axiom, fact, number):
    """The fact that an axiom derives from a fact in the step with this number, or None."""
    if axiom[0] == "subclass":
        individual = member_of(fact, axiom[1])
        return None if individual is None else membership_fact(axiom[2], individual, number)
    if axiom[0] in ROLE_INCLUSIONS and fact[0] == "role" and fact[1] == axiom[1]:
        return role_fact(second_direction(axiom, ("out", axiom[1])), fact[2], fact[3])
    return None


def membership_fact(concept, individual, number):
    """The fact that an individual belongs to a concept; the number stands for a neighbour that this needs."""
    if concept[0] == "concept":
        return ("concept", concept[1], individual)
    return role_fact(concept, individual, number)


def continued(ontology, derivation, at, chain):
    """The derivation with the steps of a chain from step `at` on, and the index of the chain's last step."""
    steps = list(derivation)
    for index in chain:
        fact = consequence(ontology[index], steps[at][0], len(steps))
        steps.append((fact, ("axiom", index, at)))
        at = len(steps) - 1
    return steps, at


def derived_memberships(ontology, facts):
    """For each derived pair (individual, concept), a given fact and the chain that leads from it to the pair."""
    chains = {}
    sources = {}
    for fact in facts:
        for individual, concept in memberships(fact):
            if concept not in chains:
                chains[concept] = chains_from(ontology, concept)
            for reached, chain in chains[concept].items():
                sources.setdefault((individual, reached), (fact, chain))
    return sources


def derived_roles(ontology, facts):
    """For each derived role fact about named individuals, a given fact and the chain that leads from it there."""
    chains = {}
    sources = {}
    for fact in facts:
        if fact[0] == "role":
            start = ("out", fact[1])
            if start not in chains:
                chains[start] = chains_from(ontology, start, roles_only=True)
            for reached, chain in chains[start].items():
                sources.setdefault(role_fact(reached, fact[2], fact[3]), (fact, chain))
    return sources


def derived_sources(ontology, facts):
    """For each derived fact, a given fact and the chain that leads from it there."""
    sources = derived_roles(ontology, facts)
    pairs = derived_memberships(ontology, facts)
    for individual, concept in pairs:
        if concept[0] == "concept":
            sources[("concept", concept[1], individual)] = pairs[(individual, concept)]
    return sources


def derived_facts(ontology, facts):
    return sorted(derived_sources(ontology, facts))


def find_derivation(ontology, facts, fact):
    if not is_fact(fact):
        return None
    sources = derived_sources(ontology, facts)
    if fact not in sources:
        return None
    given, chain = sources[fact]
    return continued(ontology, [(given, ("given",))], 0, chain)[0]


def is_step_fact(candidate):
    """True for a fact about individuals that are named or stand for unnamed ones."""
    terms = terms_of(candidate)
    return len(terms) > 0 and all([is_named(term) or is_integer(term) for term in terms])


def is_step(ontology, given, earlier, candidate):
    """True if a value is a step that may follow the earlier steps, which have been accepted."""
    if not isinstance(candidate, tuple) or len(candidate) != 2:
        return False
    fact, reason = candidate
    tag = tag_of(reason, REASON_FORMS)
    # The form of the fact comes first: True and 1.0 equal the number 1 but do not stand for an individual.
    if tag is None or not is_step_fact(fact):
        return False
    if tag == "given":
        return fact in given
    index, at = reason[1:]
    if not is_index(index, len(ontology)) or not is_index(at, len(earlier)):
        return False
    return fact == consequence(ontology[index], earlier[at][0], len(earlier))


def is_derivation(ontology, facts, candidate):
    if not isinstance(candidate, list) or not 1 <= len(candidate) <= MOST_STEPS:
        return False
    given = {fact: True for fact in facts}
    steps = []
    for step in candidate:
        if not is_step(ontology, given, steps, step):
            return False
        steps.append(step)
    return True
