"""Conflicts: derivations of facts that an axiom does not allow together."""

from factsandfar.axioms import ROLE_DISJOINTNESSES, inverse, second_direction
from factsandfar.derivations import continued, derived_memberships, derived_roles, is_derivation
from factsandfar.emptiness import find_emptiness_certificate
from factsandfar.facts import is_named, member_of, memberships, role_fact
from factsandfar.shapes import is_index


def conflict_of(ontology, index, one_source, other_source):
    """The conflict of two derived facts, each given by its source: a given fact and a chain."""
    given, chain = one_source
    steps, one = continued(ontology, [(given, ("given",))], 0, chain)
    given, chain = other_source
    steps = steps + [(given, ("given",))]
    steps, other = continued(ontology, steps, len(steps) - 1, chain)
    return (steps, index, one, other)


def membership_clashes(axiom, pairs):
    """The couples among the keys (individual, concept) of a dict that a disjoint axiom does not allow."""
    if axiom[0] != "disjoint":
        return []
    return [((individual, concept), (individual, axiom[2])) for individual, concept in pairs
            if concept == axiom[1] and (individual, axiom[2]) in pairs]


def clash_conflict(ontology, sources, clashes_of):
    """The conflict of the first two keys of a dict of sources that an axiom does not allow together, or None."""
    for index, axiom in enumerate(ontology):
        clashes = clashes_of(axiom, sources)
        if clashes:
            one, other = clashes[0]
            return conflict_of(ontology, index, sources[one], sources[other])
    return None


def excluded_fact(axiom, fact):
    """The fact that an axiom about disjoint roles excludes beside a fact, or None."""
    if axiom[0] not in ROLE_DISJOINTNESSES or fact[0] != "role" or fact[1] != axiom[1]:
        return None
    return role_fact(second_direction(axiom, ("out", axiom[1])), fact[2], fact[3])


def role_clashes(axiom, role_facts):
    """The couples among the keys of a dict, role facts about named individuals, that an axiom does not allow."""
    clashes = []
    by_member = {}
    for fact in role_facts:
        excluded = excluded_fact(axiom, fact)
        if excluded in role_facts:
            clashes.append((fact, excluded))
        individual = member_of(fact, axiom[1]) if axiom[0] == "functional" else None
        if individual is not None:
            clashes.extend([(rival, fact) for rival in by_member.get(individual, [])])
            by_member.setdefault(individual, []).append(fact)
    return clashes


def unfolded(ontology, fact, certificate):
    """The conflict to which an emptiness certificate leads from a fact about a member of its concept."""
    steps, at = [(fact, ("given",))], 0
    while certificate[0] == "successor":
        steps, at = continued(ontology, steps, at, certificate[1])
        certificate = certificate[3]
    if certificate[0] == "roles":
        steps, at = continued(ontology, steps, at, certificate[2])
    one_chain, other_chain = certificate[-2:]
    steps, one = continued(ontology, steps, at, one_chain)
    steps, other = continued(ontology, steps, at, other_chain)
    return (steps, certificate[1], one, other)


def emptiness_conflict(ontology, facts):
    tested = {}
    for fact in facts:
        for individual, concept in memberships(fact):
            if concept not in tested:
                tested[concept] = True
                certificate = find_emptiness_certificate(ontology, concept)
                if certificate is not None:
                    return unfolded(ontology, fact, certificate)
    return None


def find_conflict(ontology, facts):
    found = clash_conflict(ontology, derived_memberships(ontology, facts), membership_clashes)
    if found is None:
        found = clash_conflict(ontology, derived_roles(ontology, facts), role_clashes)
    if found is None:
        found = emptiness_conflict(ontology, facts)
    return found


def is_double(direction, one, other):
    """True if two facts give one individual two distinct named neighbours in a direction."""
    neighbour = member_of(one, inverse(direction))
    rival = member_of(other, inverse(direction))
    if not is_named(neighbour) or not is_named(rival) or neighbour == rival:
        return False
    return member_of(one, direction) == member_of(other, direction)


def is_clash(axiom, one, other):
    """True if an axiom does not allow two facts together, in this order."""
    if axiom[0] == "disjoint":
        individual = member_of(one, axiom[1])
        return individual is not None and individual == member_of(other, axiom[2])
    if axiom[0] == "functional":
        return is_double(axiom[1], one, other)
    return excluded_fact(axiom, one) == other


def is_conflict(ontology, facts, candidate):
    if not isinstance(candidate, tuple) or len(candidate) != 4:
        return False
    derivation, index, one, other = candidate
    if not is_derivation(ontology, facts, derivation) or not is_index(index, len(ontology)):
        return False
    if not is_index(one, len(derivation)) or not is_index(other, len(derivation)):
        return False
    return is_clash(ontology[index], derivation[one][0], derivation[other][0])
